import PyProof.Rows.All
import Wide.All
import OpenK.AllK
import Wide.FinOn
import HandS.ForMost
import HandS.Exc
import HandS.GenList
import HandS.AnyAll
import HandS.IsInst
import HandS.StrMore
import HandS.Flow
import HandS.TupAny
import HandS.EndTab
import HandS.Walk
import HandS.Lambda
import HandS.Codes
import KE.KIntText
import KE.KxText
import KE.KStateDown
import HandS.Head0
import HandS.Head1
import HandS.Head2
import HandS.HeadEnd
import HandS.HeadHook1
import HandS.HeadHook2
import HandS.HeadHook3
import HandS.HeadHook4
import HandS.HeadWalk
import PyProof.WalkInts
import PyProof.ZipIter
import HandS.Zip
import HandS.Nested
import HandS.GenOver
import KE.KLam
import PySem.Challenge.RW_tabgrow_k34_whole_in_whatever_order_take
import KE.GoesEnum
import HandS.Iter
import HandS.Wide
import HandS.TupMul
import KE.GoesComp
import HandS.TryMany
import HandS.Dict
import HandS.Small
import HandS.Conv
import HandS.More
import HandS.Deep
import HandS.Style
import HandS.WordsExc
import HandS.ExcInit
import HandS.ExcOwn
import HandS.FStr
import HandS.ExcIs
import HandS.ExcField
import KE.KExcIs
import KE.KExcSuper
import KE.KSuper
import KE.KSuperObj
set_option Elab.async false
set_option linter.all false
set_option maxRecDepth 1000000
set_option maxHeartbeats 20000000
namespace Gx
open PySem PySem.Spec PyProof.Rows L2 GenW
section
variable {X : Cx} {pins : List (Addr × Obj)} {σ : L2.St} {H : Hp} {s : Shared} {A : Around} {sc : Scope} {x : Str} {code : Value} {fp : List Addr}
end
end Gx
namespace Gx
open PySem PySem.Spec PyProof.Rows L2 GenW
section
variable {X : Cx} {pins : List (Addr × Obj)} {σ : L2.St} {H : Hp} {s : Shared} {sc : Scope} {x : Str}
end
end Gx
namespace Gx
open PySem PySem.Spec PyProof.Rows L2 GenW
section
variable {X : Cx} {pins : List (Addr × Obj)} {σ : L2.St} {H : Hp} {s : Shared} {sc : Scope} {x : Str}
end
end Gx
namespace Gx
open PySem PySem.Spec PyProof.Rows L2 GenW
section
variable {X : Cx} {pins : List (Addr × Obj)} {σ : L2.St} {H : Hp} {s : Shared} {sc : Scope} {x : Str}
end
end Gx
namespace Gx
open PySem PySem.Spec PyProof.Rows L2 GenW
section
variable {X : Cx} {pins : List (Addr × Obj)} {σ : L2.St} {H : Hp} {s : Shared} {sc : Scope} {x : Str}
def MaxRel (ys : List V) (acc : Array Value) : Prop :=
  ∃ ns : List Int, ys = ns.map V.int ∧ ((ns = [] ∧ acc = #[]) ∨ ∃ b t, acc = #[.int b t, .int b t] ∧ b ∈ ns ∧ ∀ z ∈ ns, z ≤ b)
def NsMax (Qm : Int → Hp → Prop) : List V → Hp → Prop := fun ys H => ∃ ns : List Int, ys = ns.map V.int ∧ ns ≠ [] ∧ ∀ b, b ∈ ns → (∀ z ∈ ns, z ≤ b) → Qm b H
theorem map_int_inj {a b : List Int} (h : a.map V.int = b.map V.int) : a = b := by
  induction a generalizing b with
  | nil => cases b with
    | nil => rfl
    | cons _ _ => cases h
  | cons x a ih => cases b with
    | nil => cases h
    | cons y b =>
      rw [List.map_cons, List.map_cons] at h
      injection h with h1 h2
      injection h1 with h1
      rw [h1, ih h2]
theorem MaxRel.none {ys : List V} {Qm : Int → Hp → Prop} (h : MaxRel ys #[]) (q : NsMax Qm ys H) : False := by
  obtain ⟨ns, rfl, h | ⟨b', u', e, hb, hm⟩⟩ := h
  · obtain ⟨ms, e1, h2, _⟩ := q
    rw [h.1] at e1
    exact h2 (map_int_inj e1).symm
  · have := congrArg Array.size e
    simp at this
end
end Gx
namespace TG
open PySem L2
def top (i : Nat) : Stmt := PySem.Challenge.pw_tabgrow_k34_whole_in_whatever_order_take.main.body.getD i (.Pass ⟨0, 0, 0, 0⟩)
abbrev s_is_whole : Stmt := top 19
abbrev s_is_sign : Stmt := top 20
abbrev s_is_text : Stmt := top 21
abbrev s_filled : Stmt := top 22
abbrev s_is_row : Stmt := top 23
abbrev s_misfit : Stmt := top 24
abbrev s_check_page : Stmt := top 25
abbrev s_check_style : Stmt := top 26
abbrev s_stretches : Stmt := top 28
abbrev s_closed_runs : Stmt := top 29
abbrev s_is_closed : Stmt := top 30
abbrev s_described : Stmt := top 31
abbrev s_stands_right : Stmt := top 32
abbrev s_is_figures : Stmt := top 33
abbrev s_laid : Stmt := top 35
abbrev s_closed_cells : Stmt := top 36
abbrev s_left_ends : Stmt := top 37
abbrev s_begins_of : Stmt := top 38
abbrev s_written : Stmt := top 40
abbrev s_rows_of : Stmt := top 41
abbrev s_begun : Stmt := top 51
abbrev s_take : Stmt := top 52
abbrev s_alike : Stmt := top 53
abbrev s_sign : Stmt := top 54
abbrev s_cell : Stmt := top 55
abbrev s_row : Stmt := top 56
abbrev s_page : Stmt := top 57
abbrev s_style : Stmt := top 58
abbrev s_could : Stmt := top 59
abbrev s_order : Stmt := top 60
abbrev s_done : Stmt := top 61
abbrev s_law : Stmt := top 63
section
variable {P : Program} {w : World} {K : PySem.W.Frag} {mg : Str → Option Value} {base : Heap}
end
end TG
namespace TG
open PySem L2
section
variable {P : Program} {w : World} {K : PySem.W.Frag} {mg : Str → Option Value} {base : Heap}
end
end TG
namespace Gx
open PySem PySem.Spec PyProof.Rows L2 GenW
section
variable {J : It} {n : Nat} {G : Hp → Prop} {Y : Nat → Hp → V → Hp → Prop}
end
end Gx
namespace TG
open PySem L2 Gx
def SgOk (c : Nat) : Prop := 32 ≤ c ∧ c ≤ 126 ∧ c ≠ 37
section
variable {P : Program} {w : World} {K : PySem.W.Frag} {mg : Str → Option Value} {base : Heap}
end
end TG
namespace TG
open PySem L2 Gx
section
variable {P : Program} {w : World} {K : PySem.W.Frag} {mg : Str → Option Value} {base : Heap} {cs : List (Addr × Addr)}
end
end TG
namespace TG
open PySem L2 Gx
section
variable {P : Program} {w : World} {K : PySem.W.Frag} {mg : Str → Option Value} {base : Heap} {cs : List (Addr × Addr)}
end
end TG
namespace TG
open PySem L2 Gx
section
variable {P : Program} {w : World} {K : PySem.W.Frag} {mg : Str → Option Value} {base : Heap} {cs : List (Addr × Addr)}
end
end TG
namespace TG
open PySem L2 Gx
section
variable {P : Program} {w : World} {K : PySem.W.Frag} {mg : Str → Option Value} {base : Heap} {cs : List (Addr × Addr)}
end
end TG
namespace TG
open PySem L2 Gx
section
variable {P : Program} {w : World} {K : PySem.W.Frag} {mg : Str → Option Value} {base : Heap} {cs : List (Addr × Addr)}
end
end TG
namespace TG
open PySem L2 Gx
section
variable {P : Program} {w : World} {K : PySem.W.Frag} {mg : Str → Option Value} {base : Heap} {cs : List (Addr × Addr)}
end
end TG
namespace TG
open PySem L2 Gx
instance (c : Nat) : Decidable (SgOk c) := inferInstanceAs (Decidable (32 ≤ c ∧ c ≤ 126 ∧ c ≠ 37))
end TG
namespace TG
open PySem L2 Gx
section
variable {P : Program} {w : World} {K : PySem.W.Frag} {mg : Str → Option Value} {base : Heap} {cs : List (Addr × Addr)}
end
end TG
namespace TG
open PySem L2 Gx
section
variable {P : Program} {w : World} {K : PySem.W.Frag} {mg : Str → Option Value} {base : Heap} {cs : List (Addr × Addr)}
end
end TG
namespace TG
open PySem L2 Gx
section
variable {P : Program} {w : World} {K : PySem.W.Frag} {mg : Str → Option Value} {base : Heap} {cs : List (Addr × Addr)}
end
end TG
namespace TG
open PySem L2 Gx
section
variable {P : Program} {w : World} {K : PySem.W.Frag} {mg : Str → Option Value} {base : Heap} {cs : List (Addr × Addr)}
end
end TG
namespace TG
open PySem L2 Gx
end TG
namespace TG
open PySem L2 Gx
end TG
namespace TG
open PySem L2 Gx
section
variable {P : Program} {w : World} {K : PySem.W.Frag} {mg : Str → Option Value} {base : Heap} {cs : List (Addr × Addr)}
end
end TG
namespace TG
open PySem L2 Gx
section
variable {P : Program} {w : World} {K : PySem.W.Frag} {mg : Str → Option Value} {base : Heap} {cs : List (Addr × Addr)}
end
end TG
namespace TG
open PySem L2 Gx
section
variable {P : Program} {w : World} {K : PySem.W.Frag} {mg : Str → Option Value} {base : Heap} {cs : List (Addr × Addr)}
end
end TG
namespace TG
open PySem L2 Gx
section
variable {P : Program} {w : World} {K : PySem.W.Frag} {mg : Str → Option Value} {base : Heap} {cs : List (Addr × Addr)}
end
end TG
namespace TG
open PySem L2 Gx
section
variable {P : Program} {w : World} {K : PySem.W.Frag} {mg : Str → Option Value} {base : Heap} {cs : List (Addr × Addr)}
end
end TG
namespace TG
open PySem L2 Gx
section
variable {P : Program} {w : World} {K : PySem.W.Frag} {mg : Str → Option Value} {base : Heap} {cs : List (Addr × Addr)}
end
end TG
namespace TG
open PySem L2 Gx
section
variable {P : Program} {w : World} {K : PySem.W.Frag} {mg : Str → Option Value} {base : Heap} {cs : List (Addr × Addr)}
end
end TG
namespace TG
open PySem L2 Gx
end TG
namespace Zm
open PySem PySem.Spec PyProof.Rows L2
section
variable {P : Program} {w : World} {A : Around} {E : Value → Shared → Prop} {s : Shared} {z TI TO i1 i2 l1 l2 : Addr}
end
end Zm
namespace Zm
open PySem PySem.Spec PyProof.Rows L2
section
variable {P : Program} {w : World} {A : Around} {E : Value → Shared → Prop} {s : Shared}
end
end Zm
namespace TG
open PySem L2 Gx
section
variable {P : Program} {w : World} {K : PySem.W.Frag} {mg : Str → Option Value} {base : Heap} {cs : List (Addr × Addr)}
end
end TG
namespace TG
open PySem L2 Gx
section
variable {P : Program} {w : World} {K : PySem.W.Frag} {mg : Str → Option Value} {base : Heap} {cs : List (Addr × Addr)}
end
end TG
namespace Lv
open PySem PySem.Spec PyProof.Rows L2 NdefX GenW
section
variable {X : Cx} {pins : List (Addr × Obj)} {σ : L2.St} {H : Hp} {s : Shared}
end
section
variable {P : Program} {w : World} {K : PySem.W.Frag} {mg : Str → Option Value} {base : Heap}
end
end Lv
namespace TG
open PySem PySem.Spec PyProof.Rows L2
section
variable {P : Program} {w : World}
variable {K : PySem.W.Frag} {mg : Str → Option Value} {base : Heap} {A : Around} {outer : List Env} {s s' : Shared}
end
end TG
namespace TG
open PySem PySem.Spec PyProof.Rows L2 NdefX GenW Gx Lv
section
variable {P : Program} {w : World} {K : PySem.W.Frag} {mg : Str → Option Value} {base : Heap}
end
end TG
namespace TG
open PySem PySem.Spec PyProof.Rows L2 NdefX GenW Gx Lv
end TG
namespace TG
open PySem PySem.Spec PyProof.Rows L2 NdefX GenW Gx Lv
end TG
namespace TG
open PySem PySem.Spec PyProof.Rows L2 Gx
section
variable {X : Cx}
end
end TG
namespace TG
open PySem PySem.Spec PyProof.Rows L2 Gx
section
variable {P : Program} {w : World} {K : PySem.W.Frag} {mg : Str → Option Value} {base : Heap} {cs : List (Addr × Addr)}
end
end TG
namespace TG
open PySem PySem.Spec PyProof.Rows L2 Gx
abbrev s_marks_there : Stmt := top 46
abbrev s_check_mark : Stmt := top 45
abbrev s_those_there : Stmt := top 47
abbrev s_text_of : Stmt := top 48
abbrev s_first_there : Stmt := top 49
def clsB : Stmt → List Stmt
  | .ClassDef _ _ _ b _ _ _ _ _ _ _ => b
  | _ => []
def mth (c i : Nat) : Stmt := (clsB (top c)).getD i (.Pass ⟨0, 0, 0, 0⟩)
def KM (A : Addr → Prop) (H H' : Hp) : Prop := ∀ c o, H c = some o → (∀ ps, o ≠ .tbl ps) → ¬ A c → H' c = some o
/-- no table, or none of these -/
def NT (cs : List (Addr × Addr)) (c : Addr) (o : HO) : Prop := (∀ ps, o ≠ .tbl ps) ∨ ∀ p ∈ cs, p.2 ≠ c
/-- as KM, other tables stay too -/
def KN (cs : List (Addr × Addr)) (A : Addr → Prop) (H H' : Hp) : Prop := ∀ c o, H c = some o → NT cs c o → ¬ A c → H' c = some o
section
variable {K : PySem.W.Frag} {A B : Addr → Prop} {H H1 H' : Hp}
theorem KM.of (x : LamX.ExtN H H') : KM A H H' := fun c o h n _ => x c o h n
theorem KN.w {cs : List (Addr × Addr)} (x : KN cs A H H') : KM A H H' := fun c o h n m => x c o h (.inl n) m
end
end TG
namespace TG
open PySem PySem.Spec PyProof.Rows L2
/-! ### the head -/
def dd (i : Nat) (x : Str) : He.DefD := ⟨(x, none), x, x, defArgs (top i), defBody (top i), defScope (top i), [], []⟩
def dm (c i : Nat) (C m : Str) : He.DefD := ⟨(C, some m), m, C ++ "." ++ m, defArgs (mth c i), defBody (mth c i), defScope (mth c i), [], []⟩
def fnL : List He.DefD := [dd 19 "is_whole", dd 20 "is_sign", dd 21 "is_text_of_signs", dd 22 "is_filled", dd 23 "is_row", dd 24 "first_misfit", dd 25 "check_page", dd 26 "check_style", dd 28 "stretches", dd 29 "closed_runs", dd 30 "is_closed", dd 31 "described", dd 32 "stands_right", dd 33 "is_figures", dd 35 "laid", dd 36 "closed_cells", dd 37 "left_ends", dd 38 "begins_of", dd 40 "written", dd 41 "rows_of", dd 45 "check_mark", dd 46 "marks_there", dd 47 "those_there", dd 48 "text_of", dd 49 "first_there", dd 51 "_law_begun", dd 52 "_law_take", dd 53 "_law_alike", dd 54 "_law_sign", dd 55 "_law_cell", dd 56 "_law_row", dd 57 "_law_page", dd 58 "_law_style", dd 59 "_law_could", dd 60 "_law_order", dd 61 "_law_done", dd 62 "_law_turned", dd 63 "law", dm 44 0 "Table" "__init__", dm 44 1 "Table" "press", dm 44 2 "Table" "rub", dm 44 3 "Table" "back", dm 44 4 "Table" "again", dm 44 5 "Table" "left", dm 44 6 "Table" "right", dm 44 8 "Table" "page", dm 44 9 "Table" "begins", dm 44 10 "Table" "told", dm 44 11 "Table" "check_hand", dm 44 12 "Table" "present", dm 44 13 "Table" "near", dm 44 14 "Table" "go", dm 44 15 "Table" "turn", dm 44 16 "Table" "settle"]
def faL : List He.Fa := [.glo "is_whole", .glo "is_sign", .glo "is_text_of_signs", .glo "is_filled", .glo "is_row", .glo "first_misfit", .glo "check_page", .glo "check_style", .glo "stretches", .glo "closed_runs", .glo "is_closed", .glo "described", .glo "stands_right", .glo "is_figures", .glo "laid", .glo "closed_cells", .glo "left_ends", .glo "begins_of", .glo "written", .glo "rows_of", .glo "check_mark", .glo "marks_there", .glo "those_there", .glo "text_of", .glo "first_there", .glo "_law_begun", .glo "_law_take", .glo "_law_alike", .glo "_law_sign", .glo "_law_cell", .glo "_law_row", .glo "_law_page", .glo "_law_style", .glo "_law_could", .glo "_law_order", .glo "_law_done", .glo "_law_turned", .glo "law", .int "BLANK" 32, .int "TILDE" 126, .int "PERCENT" 37, .int "MOST_ROWS" 30, .int "MOST_CELLS" 6, .int "MOST_SIGNS" 10, .int "MOST_GAP" 4, .int "MOST_LEAST" 12, .free "isinstance", .free "len", .free "range", .free "max", .free "min", .free "all", .free "str", .free "int", .free "bool", .free "list", .free "tuple", .free "enumerate", .free "ord", .free "zip", .glo "Table", .glo "GrowError", .glo "BadCell", .glo "TooMuch", .cls "Table", .mkr "Table", .exc "BadCell", .exm "BadCell" "GrowError" true, .exc "TooMuch", .exm "TooMuch" "GrowError" true, .str "TAB" "\t", .str "LINE_END" "\n", .int "MOST_HANDS" 4, .noat "Table" "style", .noat "Table" "signs", .noat "Table" "order", .noat "Table" "there", .noat "Table" "deeds", .noat "Table" "spots", .noat "Table" "undone", .meth "Table" "press", .meth "Table" "rub", .meth "Table" "back", .meth "Table" "again", .meth "Table" "left", .meth "Table" "right", .meth "Table" "page", .meth "Table" "begins", .meth "Table" "told", .meth "Table" "check_hand", .meth "Table" "present", .meth "Table" "near", .meth "Table" "go", .meth "Table" "turn", .meth "Table" "settle"]
def tfB : List He.Defn := [("is_text_of_signs", none), ("is_row", none), ("stretches", none), ("described", none), ("stands_right", none)]
def lmL : List He.Defn := [("_law_turned", none), ("law", none)]
def tfL : List He.Defn := tfB ++ lmL
def exL : PySem.W.Frag → Bool := fun K => (lmL.all fun r => (tfB.all fun q => decide ((He.cT K q).2 ≠ (He.cT K r).2)) && (lmL.all fun q => decide (q = r) || decide ((He.cT K q).2 ≠ (He.cT K r).2)))
def constB (K : PySem.W.Frag) : Bool := true
def exC (K : PySem.W.Frag) : Bool := exL K && constB K
end TG

namespace TG
open PySem PySem.Spec PyProof.Rows L2
abbrev hdRow : PySem.W.OpenRow := PySem.W.OpenLaw.row PySem.Challenge.rw_tabgrow_k34_whole_in_whatever_order_take
abbrev hdHk : PySem.W.Hook := He.hookX 4 faL fnL [] tfL exC
def hdOb (s : PySem.W.SharedT) : He.AlX := He.obsX 4 faL fnL [] tfL exC (HandSHeadRun.getT s)
theorem hdOb_eq (s : PySem.W.SharedT) : hdOb s = hdHk.obs s.abs := He.obsX_eq (HandSHeadRun.getT_eq s)
def loose0 : List Str := [PySem.Str.ofString "GrowError", PySem.Str.ofString "BadPage", PySem.Str.ofString "BadStyle", PySem.Str.ofString "BadCell", PySem.Str.ofString "BadCount", PySem.Str.ofString "BadHand", PySem.Str.ofString "TooMuch", PySem.Str.ofString "MOST_ROWS", PySem.Str.ofString "MOST_CELLS", PySem.Str.ofString "MOST_SIGNS", PySem.Str.ofString "MOST_GAP", PySem.Str.ofString "MOST_LEAST", PySem.Str.ofString "BLANK", PySem.Str.ofString "TILDE", PySem.Str.ofString "PERCENT", PySem.Str.ofString "TAB", PySem.Str.ofString "LINE_END", PySem.Str.ofString "is_whole", PySem.Str.ofString "is_sign", PySem.Str.ofString "is_text_of_signs"]
def loose1 : List Str := [PySem.Str.ofString "is_filled", PySem.Str.ofString "is_row", PySem.Str.ofString "first_misfit", PySem.Str.ofString "check_page", PySem.Str.ofString "check_style", PySem.Str.ofString "stretches", PySem.Str.ofString "closed_runs", PySem.Str.ofString "is_closed", PySem.Str.ofString "described", PySem.Str.ofString "stands_right", PySem.Str.ofString "is_figures", PySem.Str.ofString "laid", PySem.Str.ofString "closed_cells", PySem.Str.ofString "left_ends", PySem.Str.ofString "begins_of", PySem.Str.ofString "written", PySem.Str.ofString "rows_of", PySem.Str.ofString "MOST_HANDS", PySem.Str.ofString "Table", PySem.Str.ofString "check_mark"]
def loose2 : List Str := [PySem.Str.ofString "marks_there", PySem.Str.ofString "those_there", PySem.Str.ofString "text_of", PySem.Str.ofString "first_there", PySem.Str.ofString "_law_begun", PySem.Str.ofString "_law_take", PySem.Str.ofString "_law_alike", PySem.Str.ofString "_law_sign", PySem.Str.ofString "_law_cell", PySem.Str.ofString "_law_row", PySem.Str.ofString "_law_page", PySem.Str.ofString "_law_style", PySem.Str.ofString "_law_could", PySem.Str.ofString "_law_order", PySem.Str.ofString "_law_done", PySem.Str.ofString "_law_turned"]
def looseL : List Str := loose0 ++ loose1 ++ loose2
theorem hdRun (w : World) : HandSHeadRun.RunEq hdRow (PySem.W.view hdRow.prog [63]) hdHk hdOb 9000 looseL w := by
  intro os
  kernel_rfl
end TG

namespace Gx
open PySem PySem.Spec PyProof.Rows L2 GenW
abbrev gE (X : Cx) (sc : Scope) (C : Addr) (code : Value) : Env :=
  genEnv sc (cloFrom X.env.cells sc.names []) C code builtinsNs X.env
/-- the context of the element -/
def gCx (X : Cx) (A : Around) (sc : Scope) (x : Str) (code : Value) (s4 : Shared) (H4 : Hp) (fp : List Addr) : Cx where
  prog := X.prog
  w := X.w
  K := X.K
  mg := X.mg
  base := X.base
  A := A.deeper (gE X sc s4.heap.objs.size code)
  N := [x]
  s_0 := s4
  H_0 := H4
  env := gE X sc s4.heap.objs.size code
  outer := X.stack
  stack := gE X sc s4.heap.objs.size code :: X.stack
  ex := fp
  fn := fun _ => false
  calm := true
  pn := []
  xe := fun _ _ => False
/-- the scope of a generator expression that captures nothing -/
structure GSc (sc : Scope) (x : Str) : Prop where
  kind : sc.kind = .function
  co : sc.isCoroutine = false
  cell : ∀ y ∈ sc.names, y.2 ≠ .cell
  free : ∀ y ∈ sc.names, y.2 ≠ .free
  dot : sc.names.lookup (".0" : Str) = some NameKind.local
  loc : sc.names.lookup x = some .local
section
variable {X : Cx} {pins : List (Addr × Obj)} {σ : L2.St} {H : Hp} {s : Shared} {A : Around} {sc : Scope} {x : Str} {code : Value} {fp : List Addr}
theorem no_cells (S : GSc sc x) (cells : List (Str × Addr)) {y : Str} {c : Addr} (h : (cloFrom cells sc.names []).lookup y = some c) : False := by
  rcases cloFrom_mem (PySem.mem_of_lookup h) with z | ⟨z, _⟩
  · cases z
  · exact S.free _ z rfl
theorem gx_inv (I : Inv X pins σ H s) (S : GSc sc x) (hd : A.handled = none) (hfr : A.frames = some X.stack) (hf : ∀ b ∈ fp, FpOk X pins H b)
    (hlt : ∀ b ∈ fp, b < s.heap.objs.size) {s5 : Shared} {m : Str → Option Value} (os : s5.os = s.os) (bare : AllBare s5.gens)
    (keep : ∀ b o, s.heap.get? b = some o → s5.heap.get? b = some o) (hns : s5.heap.Ns s.heap.objs.size m) :
    Inv (gCx X A sc x code s H fp) [] [none] H s5 := by
  have nc : ∀ {y : Str} {c : Addr}, (gCx X A sc x code s H fp).env.cells.lookup y = some c → False := fun {y c} h => no_cells S _ h
  refine ⟨⟨I.ok.mod, S.kind, I.ok.glob, rfl, Nat.le_refl _, fun y z c e _ => (nc e).elim, fun y hy => ?_, fun y c _ e => (nc e).elim, fun _ => hd,
      Around.frames_deeper hfr, .inr ⟨rfl, rfl⟩, fun b hb => ⟨Nat.ne_of_lt (hlt b hb), fun y c e => (nc e).elim⟩, I.bs, Nat.le_trans I.ok.bsz I.sz,
      fun b o e hb => ?_, fun b hb z => ?_, I.stack, I.stkFree⟩,
    os, bare, Un.kept keep, ⟨m, hns, fun i y v _ e2 _ => ?_⟩, fun y c e => (nc e).elim, I.hok.fresh (Nat.le_refl _), fun y c e => (nc e).elim,
    fun p hp => ?_, I.hok.kept keep, rfl⟩
  · rcases hy with z | z
    · exact absurd rfl (S.cell _ (PySem.mem_of_lookup (show sc.names.lookup y = some .cell from z)))
    · exact absurd rfl (S.free _ (PySem.mem_of_lookup (show sc.names.lookup y = some .free from z)))
  · rcases (hf b hb).2.2.2.1 with z | z
    · exact I.ok.noex b o e z
    · exact absurd (Nat.lt_of_lt_of_le (Heap.lt_size e) (Nat.le_trans I.ok.bsz z)) (Nat.lt_irrefl _)
  · rcases List.mem_cons.mp (I.stkSub b z) with q | q
    · exact (hf b hb).2.1 q
    · exact (hf b hb).2.2.1 q
  · match i, e2 with
    | 0, e2 => cases e2
    | i + 1, e2 => simp at e2
  · exact absurd (show p ∈ ([] : List (Addr × Obj)) from hp) (by simp)
/-- only the generators' states differ -/
theorem regens {s' : Shared} (I : Inv X pins σ H s) (os : s'.os = s.os) (hh : ∀ b o, s.heap.get? b = some o → s'.heap.get? b = some o) (hb : AllBare s'.gens) : Inv X pins σ H s' :=
  I.call' (ch := []) os (Un.kept hh) (I.hok.kept hh) hb fun b z => by simp at z
/-- the consumer's own list, if it has one -/
def Held (So : Option Addr) (Rel : Array Value → Prop) (ps : List (Addr × Obj)) : Prop :=
  match So with
  | none => ps = []
  | some S => ∃ acc c, ps = [(S, lstObj acc c)] ∧ Rel acc
structure Woke (So : Option Addr) (Rel : Array Value → Prop) (s s' : Shared) : Prop where
  os : s'.os = s.os
  bare : AllBare s'.gens
  keep : ∀ b o, So ≠ some b → s.heap.get? b = some o → s'.heap.get? b = some o
  own : ∀ S, So = some S → ∃ acc' c', s'.heap.get? S = some (lstObj acc' c') ∧ Rel acc'
theorem woken {Z : Cx} {q ps : List (Addr × Obj)} {So : Option Addr} {Rel Rel' : Array Value → Prop} {s' : Shared} (I : Inv Z (q ++ ps) σ H s) (hps : Held So Rel ps) (hq : ∀ p ∈ Z.pn ++ q, So ≠ some p.1)
    (hS : ∀ S, So = some S → Z.s_0.heap.objs.size ≤ S ∧ S ≠ Z.env.locals ∧ ∀ y c, Z.env.cells.lookup y = some c → c ≠ S) (k : Woke So Rel' s s') :
    ∃ ps', Held So Rel' ps' ∧ Inv Z (q ++ ps') σ H s' ∧ ∀ p ∈ ps', s'.heap.get? p.1 = some p.2 := by
  cases So with
  | none =>
    have e : ps = [] := hps
    subst e
    exact ⟨[], rfl, regens I k.os (fun b o e => k.keep b o (by simp) e) k.bare, fun p hp => by simp at hp⟩
  | some S =>
    obtain ⟨acc, c, e, _⟩ := hps
    subst e
    obtain ⟨h1, h2, h3, h4, _⟩ := I.pin (S, lstObj acc c) (List.mem_append_right _ (List.mem_append_right _ (List.mem_singleton.mpr rfl)))
    obtain ⟨acc', c', e', hR⟩ := k.own S rfl
    obtain ⟨g1, g2, g3⟩ := hS S rfl
    have I0 : Inv Z q σ H s := I.pins_of fun p hp => I.pin p (List.mem_append_right _ (List.mem_append_left _ hp))
    have nS : ∀ b u, H b = some u → b ≠ S := fun b u e z => by rw [z, h2] at e; cases e
    have kp : ∀ b o, b ≠ S → s.heap.get? b = some o → s'.heap.get? b = some o := fun b o hb e => k.keep b o (fun z => hb (Option.some.inj z).symm) e
    have ni : ∀ b : Addr, b ∉ [S] → b ≠ S := fun b hb e => hb (by rw [e]; exact List.mem_singleton.mpr rfl)
    have J : Inv Z q σ H s' := by
      refine I0.call' (ch := [S]) k.os ⟨fun b o e _ _ hx => kp b o (ni b hx) e, fun b o e _ _ hx => ⟨o.slots, kp b o (ni b hx) e⟩, fun _ _ _ n _ => n, fun b o e hx => ⟨o, kp b o (ni b hx) e⟩,
        fun _ _ e => e, fun _ _ _ e => e, fun _ _ e => ⟨#[], by rw [e]; simp⟩⟩ (fun b u e => ?_) k.bare fun b hb => ?_
      · refine (I0.hok b u e).stay (fun d v hd z => kp d v ?_ z) (fun _ z => z) fun _ _ z => z
        rcases hd with z | z
        · rw [z]; exact nS b u e
        · exact nS d _ z
      · have eb : b = S := List.mem_singleton.mp hb
        subst eb
        exact ⟨.inr g1, g2, g3, fun p hp z => hq p hp (by rw [z])⟩
    refine ⟨[(S, lstObj acc' c')], ⟨acc', c', rfl, hR⟩, J.pins_of fun p hp => ?_, fun p hp => by rw [List.mem_singleton.mp hp]; exact e'⟩
    rcases List.mem_append.mp hp with z | z
    · exact J.pin p (List.mem_append_right _ z)
    · rw [List.mem_singleton.mp z]
      exact ⟨e', h2, h3, h4, fun v z => by cases z⟩
abbrev WT := Nat → List V → Hp → Prop
/-- an item is handed out -/
def GYx (Z : Cx) (q : List (Addr × Obj)) (So : Option Addr) (Rel : List V → Array Value → Prop) (W : WT) (Ny : Nat → List V → V → Hp → Prop) : Protocol := fun n s₀ v s1 kap =>
  ∃ m ys y σ H ps, m < n + 1 ∧ RelV y v ∧ Held So (Rel ys) ps ∧ (∀ p ∈ ps, s₀.heap.get? p.1 = some p.2) ∧ Inv Z (q ++ ps) σ H s1 ∧ Ny m ys y H ∧ ∀ s', Woke So (Rel (ys ++ [y])) s1 s' → ∀ m', m' < m → W m' (ys ++ [y]) H → kap (.send .none) s'
def GFx (Z : Cx) (q : List (Addr × Obj)) (So : Option Addr) (Rel : List V → Array Value → Prop) (Ns : List V → Hp → Prop) (s₀ s1 : Shared) : Prop :=
  ∃ ys σ H ps, Held So (Rel ys) ps ∧ (∀ p ∈ ps, s₀.heap.get? p.1 = some p.2) ∧ Inv Z (q ++ ps) σ H s1 ∧ Ns ys H
abbrev GRx (Z : Cx) (q : List (Addr × Obj)) (So : Option Addr) (Rel : List V → Array Value → Prop) (Ns : List V → Hp → Prop) : GenEnd := fun n s₀ r s₁ =>
  ((r = .ok (.ret .none) ∨ r = .ok .next) ∧ (fun (_ : Nat) (t : Shared) s => GFx Z q So Rel Ns t s) n s₀ s₁) ∨ ∃ e, r = .error e ∧ (fun (_ : Value) (_ : Shared) => False) e s₁
theorem seg_turns {elt iter : Expr} {px : Pos} {pos : Pos} {it : Addr} {J : It} {tn : Nat → Heap → Prop} {te : TE} {W : WT} {Ny : Nat → List V → V → Hp → Prop} {Ns : List V → Hp → Prop} {s4 : Shared} {H4 : Hp}
    {q : List (Addr × Obj)} {So : Option Addr} {Rel : List V → Array Value → Prop}
    (S : GSc sc x) (T : Turn X.prog X.w X.K (.Name x px) J fp it tn)
    (stat : ∀ b ∈ fp, b ≠ s4.heap.objs.size ∧ b ∉ frs X.stack ∧ (∀ p ∈ q, p.1 ≠ b) ∧ So ≠ some b)
    (hq : ∀ p ∈ q, So ≠ some p.1) (hS : ∀ S', So = some S' → s4.heap.objs.size < S')
    (he : PE (gCx X A sc x code s4 H4 fp) elt te)
    (step : ∀ m ys H, W m ys H → (J.stop ys.length H ∧ Ns ys H) ∨ (J.go ys.length H ∧ ∀ v H', J.yld ys.length H v H' → te [some v] H' (Ny m ys))) :
    ∀ (n m : Nat) (ys : List V) (s₀ s : Shared) (σ : L2.St) (H : Hp) (ps : List (Addr × Obj)), m < n → Held So (Rel ys) ps → (∀ p ∈ ps, s₀.heap.get? p.1 = some p.2) → W m ys H → Inv (gCx X A sc x code s4 H4 fp) (q ++ ps) σ H s → tn ys.length s.heap → (∀ b ∈ fp, H b = none) →
      Seg (model X.prog X.w) A (GRx (gCx X A sc x code s4 H4 fp) q So Rel Ns) (GYx (gCx X A sc x code s4 H4 fp) q So Rel W Ny) n s₀
        (.compLoop (.GeneratorExp elt [⟨.Name x px, iter, [], 0⟩] sc pos) 0 (.ref it) .none (gE X sc s4.heap.objs.size code))
        ((model X.prog X.w).den (.compLoop (.GeneratorExp elt [⟨.Name x px, iter, [], 0⟩] sc pos) 0 (.ref it) .none (gE X sc s4.heap.objs.size code))) [] s := by
  have nc : ∀ {y : Str} {c : Addr}, (gCx X A sc x code s4 H4 fp).env.cells.lookup y = some c → False := fun {y c} h => no_cells S _ h
  intro n
  induction n with
  | zero => intro m _ _ _ _ _ _ hm; exact absurd hm (Nat.not_lt_zero _)
  | succ n ih =>
    intro m ys s₀ s σ H ps hm hps hs0 hW I htn hfn
    have fok : ∀ {H' : Hp}, (∀ b ∈ fp, H' b = none) → ∀ b ∈ fp, FpOk (gCx X A sc x code s4 H4 fp) (q ++ ps) H' b := fun {H'} hn b hb => by
      obtain ⟨a1, a2, a3, a4⟩ := stat b hb
      refine ⟨hn b hb, a1, a2, .inl hb, fun y c e => (nc e).elim, fun p hp => ?_⟩
      rcases List.mem_append.mp (show p ∈ q ++ ps from hp) with z | z
      · exact a3 p z
      · cases So with
        | none =>
          have e : ps = [] := hps
          rw [e] at z
          simp at z
        | some S' =>
          obtain ⟨acc, c, e, _⟩ := hps
          rw [e] at z
          rw [List.mem_singleton.mp z]
          exact fun w => a4 (by rw [← w])
    show Seg _ A _ _ _ s₀ _ ((compTurn (.GeneratorExp elt [⟨.Name x px, iter, [], 0⟩] sc pos) 0 (.ref it) .none (gE X sc s4.heap.objs.size code)).onRaise (leaving (gE X sc s4.heap.objs.size code))) [] s
    rw [compTurn_gen, Sem.onRaise_eq_wrap]
    refine seg_bind_wrap (wpAny_standAt ?_)
    rcases step m ys H hW with ⟨stop, qn⟩ | ⟨go, st⟩
    · refine seg_bind_wrap (thn (T.done (gCx X A sc x code s4 H4 fp) rfl rfl rfl rfl ys.length (q ++ ps) s σ H _ I (fok hfn) htn stop) fun r s5 ⟨hr, I5⟩ => ?_)
      subst hr
      exact seg_end (.ok .next) (.inl ⟨.inr rfl, ys, σ, H, ps, hps, hs0, I5, qn⟩)
    · refine seg_bind_wrap (thn (T.item (gCx X A sc x code s4 H4 fp) rfl rfl rfl rfl ys.length (q ++ ps) s σ H _ I (fok hfn) htn go) fun r s5 ⟨u, hr, h5⟩ => ?_)
      subst hr
      refine seg_bind_wrap (thn h5 fun _ s6 ⟨v, H6, I6, r6, y6, tn6, fn6⟩ => ?_)
      have I6' := I6.pinned (fok fn6) (T.obj _ _ tn6)
      have pg : PG (gCx X A sc x code s4 H4 fp) (.Name x px) (gName 0) := pg_name (i := 0) (List.nodup_cons.mpr ⟨by simp, List.nodup_nil⟩) rfl (.inl S.loc) (.inr S.loc)
      have eσ : σ.set 0 (some v) = [some v] := by
        have hl : σ.length = 1 := I.len
        match σ, hl with
        | [_], _ => rfl
      refine seg_bind_wrap (wpAny_mono (pg.run _ s6 σ H6 v u (fun σ' H' => σ' = [some v] ∧ H' = H6) I6' r6 ⟨eσ, rfl⟩) (fun _ s7 h7 => ?_) fun _ _ z => z.elim)
      obtain ⟨σ7, H7, I7, eσ7, eH7⟩ := h7
      subst eσ7 eH7
      simp only [List.forIn_nil]
      refine seg_bind_wrap (wpAny_pure ?_)
      simp only [if_true]
      have hy : ∀ v, yieldOut (gE X sc s4.heap.objs.size code) v = yieldValue v := fun v => by
        simp only [yieldOut, show (gE X sc s4.heap.objs.size code).scope.isCoroutine = false from S.co, Bool.false_eq_true, if_false]
      simp only [hy]
      rw [Sem.bind_eq_wrap', Sem.bind_eq_wrap', Sem.wrap_wrap, Sem.wrap_wrap]
      refine seg_wrap (wpAny_mono (he.run _ s7 [some v] H7 _ I7 (st v H7 y6)) (fun w s8 h8 => ?_) fun _ _ z => z.elim)
      obtain ⟨y, H8, I8, r8, ny⟩ := h8
      have fn8 : ∀ b ∈ fp, H8 b = none := fun b hb => by
        obtain ⟨o, e, d⟩ := T.obj _ _ tn6 b hb
        exact (I8.pin (b, o) (List.mem_append_right _ (List.mem_append_right _ (mem_pinsAt hb e)))).2.1
      have tn8 : tn (ys.length + 1) s8.heap := T.keep _ _ _ tn6 fun b hb o e => (I8.pin (b, o) (List.mem_append_right _ (List.mem_append_right _ (mem_pinsAt hb e)))).1
      refine seg_at (seg_yield rfl rfl rfl ⟨m, ys, y, [some v], H8, ps, hm, r8, hps, hs0, I8.unpinned, ny, fun s9 wk m' hm' w' => ?_⟩)
      obtain ⟨ps', hps', I9, e9⟩ := woken I8.unpinned hps (fun p hp => hq p hp) (fun S' e => ⟨Nat.le_of_lt (hS S' e), Nat.ne_of_gt (hS S' e), fun y c e => (nc e).elim⟩) wk
      refine seg_again rfl (ih m' (ys ++ [y]) s9 s9 [some v] H8 ps' (by omega) hps' e9 w' I9 ?_ fn8)
      rw [List.length_append, List.length_singleton]
      exact T.keep _ _ _ tn8 fun b hb o e => wk.keep b o (stat b hb).2.2.2 e
end
end Gx
namespace Gx
open PySem PySem.Spec PyProof.Rows L2 GenW
section
variable {X : Cx} {pins : List (Addr × Obj)} {σ : L2.St} {H : Hp} {s : Shared} {sc : Scope} {x : Str}
theorem seg_begin {A : Around} {elt iter : Expr} {px pos : Pos} {it : Addr} {J : It} {fp : List Addr} {tn : Nat → Heap → Prop} {cenv : Env} {R : GenEnd} {Y : Protocol} {n : Nat} {s₀ : Shared}
    (T : Turn X.prog X.w X.K (.Name x px) J fp it tn) (ht : tn 0 s.heap)
    (loop : Seg (model X.prog X.w) A R Y n s₀ (.compLoop (.GeneratorExp elt [⟨.Name x px, iter, [], 0⟩] sc pos) 0 (.ref it) .none cenv) ((model X.prog X.w).den (.compLoop (.GeneratorExp elt [⟨.Name x px, iter, [], 0⟩] sc pos) 0 (.ref it) .none cenv)) [] s) :
    Seg (model X.prog X.w) A R Y n s₀ (.compStart (.GeneratorExp elt [⟨.Name x px, iter, [], 0⟩] sc pos) 0 (.ref it) .none cenv) ((model X.prog X.w).den (.compStart (.GeneratorExp elt [⟨.Name x px, iter, [], 0⟩] sc pos) 0 (.ref it) .none cenv)) [] s := by
  show Seg _ A R Y n s₀ _ ((compStart (.GeneratorExp elt [⟨.Name x px, iter, [], 0⟩] sc pos) 0 (.ref it) .none cenv).onRaise (leaving cenv)) [] s
  unfold compStart
  rw [Sem.onRaise_eq_wrap]
  show Seg _ A R Y n s₀ _ ((ask >>= _).wrap _ _ _ _) [] s
  refine seg_bind_wrap (wpAny_askSetting ?_)
  split
  · exact seg_again rfl loop
  · first
      | exact seg_bind_wrap (wpAny_rule (seg_bind_wrap (wpAny_standAt (seg_bind_wrap (T.self _ 0 s _ _ ht (seg_again rfl loop))))))
      | (refine seg_bind_wrap (wpAny_rule ?_); show Seg _ A R Y n s₀ _ ((standAt iter.pos >>= _).wrap _ _ _ _) [] s; exact seg_bind_wrap (wpAny_standAt (seg_bind_wrap (T.self _ 0 s _ _ ht (seg_again rfl loop)))))
/-- the reading of a generator expression: W the state between two turns, by a measure, what was handed out, the heap -/
def tGen (P : Addr) (wi : TI) (te : TE) (NyOf : WT → Nat → List V → V → Hp → Prop) (Ns : List V → Hp → Prop) : L2.St → Hp → Prop := fun σ H =>
  wi σ H fun J H1 => GxR.TabG H1 P ∧ ∀ H2, GxR.Tabbed P H1 H2 → ∃ W : WT, (∃ m, W m [] H2) ∧ ∀ m ys H, W m ys H →
    (J.stop ys.length H ∧ Ns ys H) ∨ (J.go ys.length H ∧ ∀ v H', J.yld ys.length H v H' → te [some v] H' (NyOf W m ys))
theorem code_step {A : Around} {E : Value → Shared → Prop} {Q : Value → Shared → Prop} {c P : Addr} {gpos : Pos} (I : Inv X pins σ H s) (TB : GxR.TabB X.base X.mg c P) (hcode : X.env.code = .ref c) (hT : GxR.TabG H P)
    (h : ∀ (code : Value) (H3 : Hp) (s3 : Shared), GxR.Tabbed P H H3 → Inv X pins σ H3 s3 → (∀ b o, b ≠ P → s.heap.get? b = some o → s3.heap.get? b = some o) → Q code s3) :
    wpAny (model X.prog X.w) A (genexprCode X.env gpos (X.env.qual ++ "<genexpr>") sc) Q E s := by
  obtain ⟨ps, hP, ht⟩ := id hT
  have hPs : s.heap.get? P = some { cls := .none, data := .fields ps } := I.hok P _ hP
  have cd : PySem.W.CodeHd s.heap c P := TB.code.keeps I.bk
  cases hf : codeAmong gpos ps.toList with
  | none =>
    refine wpAny_genexprCodeX hcode (cd.code hPs ht) (cd.tab hPs) hf fun c' h' tk hx hge hlt hco' _ htab' _ => ?_
    obtain ⟨o1, vs, f1, tf, fl, tg, inF, tx, tt, op, _, _, _, _, _, _, _, _, _, htr, _⟩ := hco'
    have J := GxR.inv_tab (t' := tk) (g' := s.gens) (d' := s.drawn) I hP (fun b o hb e => hx b o hb e) htab'.2 I.bare
    exact h _ _ _ ⟨⟨_, upd_same, htr⟩, fun b hb => upd_ne hb⟩ J fun b o hb e => hx b o hb e
  | some cv =>
    refine wpAny_genexprCode_hit hcode (cd.code hPs ht) hf ?_
    exact h _ H s ⟨hT, fun _ _ => rfl⟩ I fun _ _ _ e => e
end
end Gx
namespace Gx
open PySem PySem.Spec PyProof.Rows L2 GenW
section
variable {X : Cx} {pins : List (Addr × Obj)} {σ : L2.St} {H : Hp} {s : Shared} {sc : Scope} {x : Str}
/-- a generator that has not begun, at a in s5 -/
def Begun1 (X : Cx) (pins : List (Addr × Obj)) (σ : L2.St) (k : Nat) (Rel : List V → Array Value → Prop) (NyOf : WT → Nat → List V → V → Hp → Prop) (Ns : List V → Hp → Prop) (a : Addr) (s5 : Shared) : Prop :=
  ∃ (g : Nat) (c : Code) (H4 : Hp), s5.heap.IsGen a g ∧ s5.gens[g]? = some (.fresh c) ∧ Inv X pins σ H4 s5 ∧ a < s5.heap.objs.size ∧
    ∀ (A : Around) (So : Option Addr) (s6 : Shared), Room (k + 1) A → A.frames = some X.stack → (∀ S, So = some S → s5.heap.objs.size ≤ S ∧ ∃ acc c, s6.heap.get? S = some (lstObj acc c) ∧ Rel [] acc) →
      (∀ b o, s5.heap.get? b = some o → s6.heap.get? b = some o) → s6.os = s5.os → AllBare s6.gens →
      ∃ (Z : Cx) (q : List (Addr × Obj)) (W : WT) (m0 : Nat),
        (∀ ps σz Hz s7, Inv Z (q ++ ps) σz Hz s7 → Inv X pins σ Hz s7 ∧ s7.heap.IsGen a g) ∧
        Seg (model X.prog X.w) A (GRx Z q So Rel Ns) (GYx Z q So Rel W (NyOf W)) (m0 + 1) s6 c ((model X.prog X.w).den c) [] s6
theorem gx_make {elt iter : Expr} {px gpos : Pos} {c P : Addr} {wi : TI} {te : TE} {k j : Nat} {Rel : List V → Array Value → Prop} {NyOf : WT → Nat → List V → V → Hp → Prop} {Ns : List V → Hp → Prop} {Q' : Value → Shared → Prop}
    (hr : Room j X.A) (TB : GxR.TabB X.base X.mg c P) (hcode : X.env.code = .ref c) (S : GSc sc x) (hi : PI X (.Name x px) iter wi)
    (he : ∀ (A : Around) (code : Value) (s4 : Shared) (H4 : Hp) (fp : List Addr), Room k (A.deeper (gE X sc s4.heap.objs.size code)) → PE (gCx X A sc x code s4 H4 fp) elt te)
    (hs : ∀ v, genFold iter X.env v = pure v) (I : Inv X pins σ H s) (h : tGen P wi te NyOf Ns σ H)
    (hQ : ∀ a s5, Begun1 X pins σ k Rel NyOf Ns a s5 → Q' (.ref a) s5) :
    wpAny (model X.prog X.w) X.A (eval (.GeneratorExp elt [⟨.Name x px, iter, [], 0⟩] sc gpos) X.env) Q' X.xe s := by
  refine wpAny_GeneratorExp_make S.co (closure_ok fun y hy z => absurd z (S.free y hy)) S.cell S.dot S.kind hr.depth ?_ hs
  refine thn (hi.run pins s σ H _ I h) fun xv s1 h1 => thn h1 fun itv s2 h2 => ?_
  obtain ⟨it, fp, tn, J, H2, e, I2, T, st2, f2, hT, hW⟩ := h2
  subst e
  refine ⟨I2.nolimit, code_step I2 TB hcode hT fun code H3 s3 hTb I3 kp3 => ?_⟩
  obtain ⟨bm, ob, e1, e2, e3, e4, e5, e6, e7, e8⟩ := TB.bm
  refine wpAny_builtinsFor (m := X.mg) (by rw [I3.ok.glob]; exact I3.mod.glob.keeps I3.bk) e1 e2 (I3.bk _ _ e5) e6 e7 e8 fun h' hn' hs' => ?_
  obtain ⟨W, ⟨m0, w0⟩, step⟩ := hW H3 hTb
  have hTP : H2 P ≠ none := by
    obtain ⟨ps, z, _⟩ := hT
    rw [z]; exact fun q => nomatch q
  have nP : ∀ b ∈ fp, b ≠ P := fun b hb z => hTP (by rw [← z]; exact (f2 b hb).1)
  have f3 : ∀ b ∈ fp, FpOk X pins H3 b := fun b hb => ⟨(hTb.2 b (nP b hb)).trans (f2 b hb).1, (f2 b hb).2⟩
  have tn3 : tn 0 s3.heap := T.keep _ _ _ st2 fun b hb o q => kp3 b o (nP b hb) q
  have lt3 : ∀ b ∈ fp, b < s3.heap.objs.size := fun b hb => by
    obtain ⟨o, q, _⟩ := T.obj _ _ tn3 b hb
    exact Heap.lt_size q
  have hsz : h'.objs.size = s3.heap.objs.size + 1 := by rw [hs'.1, Heap.size_push]
  have kp' : ∀ b o, s3.heap.get? b = some o → h'.get? b = some o := fun b o q => hs'.extBut b o (Nat.ne_of_lt (Heap.lt_size q)) (Heap.get?_push_of_some _ q)
  refine hQ _ _ ⟨s3.gens.size, _, H3, ⟨_, _, _, Heap.get?_push_size _ rfl, rfl, rfl, rfl⟩, Array.getElem?_push_size .., ?_, ?_, fun A So s6 hrA hfr hSo kp6 os6 b6 => ?_⟩
  · exact regens I3 rfl (fun b o q => Heap.get?_push_of_some _ (kp' b o q)) (AllBare.push I3.bare rfl)
  · show h'.objs.size < (h'.push _).objs.size
    rw [Heap.size_push]; exact Nat.lt_succ_self _
  · have kp36 : ∀ b o, s3.heap.get? b = some o → s6.heap.get? b = some o := fun b o q => kp6 b o (Heap.get?_push_of_some _ (kp' b o q))
    have hns6 : s6.heap.Ns s3.heap.objs.size (fun y => if y = ".0" then some (.ref it) else none) := by
      obtain ⟨o, es, ep, ho, r⟩ := hn'
      exact ⟨o, es, ep, kp6 _ _ (Heap.get?_push_of_some _ ho), r⟩
    have IZ := gx_inv (code := code) (A := A) I3 S hrA.hd hfr f3 lt3 (s5 := s6) os6 b6 kp36 hns6
    have big : ∀ b, s3.heap.objs.size < b → H3 b = none ∧ b ≠ s3.heap.objs.size ∧ b ∉ frs X.stack := fun b hb => by
      refine ⟨I3.hok.fresh (Nat.le_of_lt hb), Nat.ne_of_gt hb, fun z => ?_⟩
      rcases List.mem_cons.mp (I3.stkSub b z) with w | w
      · exact absurd (Nat.lt_trans (by rw [w]; exact I3.lt) hb) (Nat.lt_irrefl _)
      · exact I3.nofs (Nat.le_of_lt hb) w
    have ha : s3.heap.objs.size < h'.objs.size := by rw [hsz]; exact Nat.lt_succ_self _
    have hga := kp6 h'.objs.size _ (Heap.get?_push_size _ rfl)
    have hSb : ∀ S', So = some S' → h'.objs.size < S' := fun S' z => by
      have q := (hSo S' z).1
      have q' : (h'.push _).objs.size ≤ S' := q
      rw [Heap.size_push] at q'
      exact q'
    obtain ⟨ps, hps, IZ2⟩ : ∃ ps, Held So (Rel []) ps ∧ Inv (gCx X A sc x code s3 H3 fp) ([(h'.objs.size, _)] ++ ps) [none] H3 s6 := by
      cases So with
      | none =>
        refine ⟨[], rfl, IZ.pins_of fun p hp => ?_⟩
        rw [List.append_nil] at hp
        rw [List.mem_singleton.mp hp]
        obtain ⟨b1, b2, b3⟩ := big _ ha
        exact ⟨hga, b1, b2, b3, fun v z => by cases z⟩
      | some S' =>
        obtain ⟨_, acc, cc, q2, hR⟩ := hSo S' rfl
        refine ⟨[(S', lstObj acc cc)], ⟨acc, cc, rfl, hR⟩, IZ.pins_of fun p hp => ?_⟩
        rcases List.mem_append.mp hp with z | z
        · rw [List.mem_singleton.mp z]
          obtain ⟨b1, b2, b3⟩ := big _ ha
          exact ⟨hga, b1, b2, b3, fun v z => by cases z⟩
        · rw [List.mem_singleton.mp z]
          obtain ⟨b1, b2, b3⟩ := big _ (Nat.lt_trans ha (hSb S' rfl))
          exact ⟨q2, b1, b2, b3, fun v z => by cases z⟩
    have hSne : ∀ b, b ≤ h'.objs.size → So ≠ some b := fun b hb z => absurd (Nat.lt_of_lt_of_le (hSb b z) hb) (Nat.lt_irrefl _)
    refine ⟨gCx X A sc x code s3 H3 fp, [(h'.objs.size, { cls := .type "generator", data := .fields #[.int s3.gens.size 0, .str "<genexpr>" (s3.toks + 1), .str (X.env.qual ++ "<genexpr>") (s3.toks + 1 + 1)] })], W, m0, fun ps σz Hz s7 J7 => ⟨?_, ?_⟩, ?_⟩
    · refine I3.call' (ch := fp) J7.os J7.base J7.hok J7.bare fun b hb => ?_
      obtain ⟨_, a2, _, a4, a5, a6⟩ := f3 b hb
      exact ⟨a4, a2, a5, a6⟩
    · exact ⟨_, _, _, (J7.pin _ (List.mem_append_right _ (List.mem_append_left _ (List.mem_singleton.mpr rfl)))).1, rfl, rfl, rfl⟩
    · refine seg_begin T (T.keep _ _ _ tn3 fun b hb o q => kp36 b o q) ?_
      refine seg_turns S T (fun b hb => ⟨Nat.ne_of_lt (lt3 b hb), fun z => ?_, fun p hp z => ?_, hSne b (Nat.le_of_lt (Nat.lt_trans (lt3 b hb) ha))⟩) (fun p hp => ?_) (fun S' z => Nat.lt_trans ha (hSb S' z)) (he A code s3 H3 fp (hrA.deeper _)) step
        (m0 + 1) m0 [] s6 s6 [none] H3 ps (Nat.lt_succ_self _) hps (fun p hp => (IZ2.pin p (List.mem_append_right _ (List.mem_append_right _ hp))).1) w0 IZ2 (T.keep _ _ _ tn3 fun b hb o q => kp36 b o q) fun b hb => (f3 b hb).1
      · rcases List.mem_cons.mp (I3.stkSub b z) with w | w
        · exact (f3 b hb).2.1 w
        · exact (f3 b hb).2.2.1 w
      · rw [List.mem_singleton.mp hp] at z
        have q : h'.objs.size = b := z
        exact absurd (Nat.lt_trans (lt3 b hb) ha) (by rw [q]; exact Nat.lt_irrefl _)
      · rw [List.mem_singleton.mp hp]
        exact hSne _ (Nat.le_refl _)
end
end Gx
namespace Gx
open PySem PySem.Spec PyProof.Rows L2 GenW
section
variable {X : Cx} {pins : List (Addr × Obj)} {σ : L2.St} {H : Hp} {s : Shared} {sc : Scope} {x : Str}
def NyAll (Qb : Bool → Hp → Prop) (W : WT) : Nat → List V → V → Hp → Prop := fun m ys y H => ∃ b : Bool, y = .bl b ∧ if b = true then ∃ m', m' < m ∧ W m' (ys ++ [y]) H else Qb false H
abbrev noRel : List V → Array Value → Prop := fun _ _ => True
theorem all_turns {Z : Cx} {q : List (Addr × Obj)} {W : WT} {Qb : Bool → Hp → Prop} {A : Around} {a : Addr} {g : Nat} {Rr : Result → Shared → Prop} (hh : A.handled = none) (hd : A.depth < recursionLimit)
    (fin : ∀ ps σz Hz s7, Inv Z (q ++ ps) σz Hz s7 → Inv X pins σ Hz s7 ∧ s7.heap.IsGen a g)
    (hdone : ∀ b H' s', Inv X pins σ H' s' → Qb b H' → Rr (.ok (.ret (.bool b))) s') :
    ∀ (n : Nat) (s : Shared), s.heap.IsGen a g → s.heap.NoLimit →
      (∃ gs, s.gens[g]? = some gs ∧ gs.Goes (model X.prog X.w) A.in1.in1 (GRx Z q none noRel fun _ => Qb true) (GYx Z q none noRel W (NyAll Qb W)) n (.send .none) (s.setGen g .running)) →
      codeAny (model X.prog X.w) A (.builtin "all.loop" ⟨[.ref a], []⟩) Rr s := by
  intro n
  induction n using Nat.strongRecOn with
  | ind n ih =>
    intro s hg hl ⟨gs, hgs, hgo⟩
    have hgl : g < s.gens.size := (Array.getElem?_eq_some_iff.mp hgs).1
    refine codeAny_builtin F.entry_all_loop ?_; rw [Around.under_plainId F.plain_all_loop _]
    show wpAny _ A.in1 (pyNext (.ref a) >>= _) _ _ s
    refine wpAny_bind (wpAny_gsz (n := g + 1) hgl (next_genG (A := A.in1) hh hl hd hg hgs hgo (fun v s₁ gs' hbare hv => ?_) (fun s₁ hp h' hk => ?_) fun e s₁ he => he.elim))
    · intro hsz
      obtain ⟨m, ys, y, σz, Hz, ps, hm, rv, hps, _, J, ⟨b, eb, hb⟩, hkap⟩ := hv
      subst eb
      have eps : ps = [] := hps
      subst eps
      have ev : v = Value.bool b := rv
      subst ev
      obtain ⟨I1, g1⟩ := fin _ _ _ _ J
      have hsz1 : g < s₁.gens.size := by
        have q1 : (s₁.setGen g gs').gens.size = s₁.gens.size := setGen_size _ _ _
        have q2 : g + 1 ≤ (s₁.setGen g gs').gens.size := hsz
        omega
      have bare2 : AllBare (s₁.setGen g gs').gens := allBare_setGen I1.bare hbare
      refine wpAny_bind (wpAny_holding (wpAny_truthy_bool ?_))
      refine wpAny_bind (wpAny_letGo ?_)
      cases b with
      | true =>
        obtain ⟨m', hm', hw⟩ : ∃ m', m' < m ∧ W m' (ys ++ [V.bl true]) Hz := by simpa using hb
        simp only [if_true]
        cases n with
        | zero => omega
        | succ n =>
          refine wpAny_pure ⟨plainId_quiet F.plain_all_loop _, ih n (Nat.lt_succ_self n) (s₁.setGen g gs') g1 I1.nolimit ⟨gs', setGen_at hsz1, ?_⟩⟩
          exact hkap ((s₁.setGen g gs').setGen g .running) ⟨rfl, allBare_setGen bare2 rfl, fun b o _ e => e, fun S z => by cases z⟩ m' hm' hw
      | false =>
        have hq : Qb false Hz := by simpa using hb
        simp only [Bool.false_eq_true, if_false]
        exact wpAny_bind (wpAny_rule (wpAny_pure (hdone false Hz _ (regens I1 rfl (fun _ _ e => e) bare2) hq)))
    · intro hsz
      obtain ⟨ys, σz, Hz, ps, hps, _, J, hq⟩ := hp
      have eps : ps = [] := hps
      subst eps
      obtain ⟨I1, g1⟩ := fin _ _ _ _ J
      exact wpAny_bind (wpAny_rule (wpAny_pure (hdone true Hz _ (regens I1 rfl (fun b o e => hk b o e) (allBare_setGen I1.bare rfl)) hq)))
/-- all(elt for x in iter) -/
def tAllG (P : Addr) (wi : TI) (te : TE) : TE := fun σ H Q => tGen P wi te (NyAll fun b H => Q (.bl b) H) (fun _ H => Q (.bl true) H) σ H
theorem pe_allG {elt iter : Expr} {px p pos gpos : Pos} {c P : Addr} {wi : TI} {te : TE} {k : Nat}
    (hr : Room (k + 3) X.A) (hg : Gl X "all") (hm : X.mg "all" = none) (TB : GxR.TabB X.base X.mg c P) (hcode : X.env.code = .ref c) (S : GSc sc x) (hi : PI X (.Name x px) iter wi)
    (he : ∀ (A : Around) (code : Value) (s4 : Shared) (H4 : Hp) (fp : List Addr), Room k (A.deeper (gE X sc s4.heap.objs.size code)) → PE (gCx X A sc x code s4 H4 fp) elt te)
    (hs : ∀ v, genFold iter X.env v = pure v)
    (hst : starEach [.GeneratorExp elt [⟨.Name x px, iter, [], 0⟩] sc gpos] X.env = (false, eval (.GeneratorExp elt [⟨.Name x px, iter, [], 0⟩] sc gpos) X.env) :: starEach [] X.env := by rfl) :
    PE X (.Call (.Name "all" p) [.GeneratorExp elt [⟨.Name x px, iter, [], 0⟩] sc gpos] [] pos) (tAllG P wi te) := by
  refine ⟨fun pins s σ H Q I h => ?_⟩
  have hb : bootBuiltins "all" = some (.builtin "all") := by decide +kernel
  refine wpAny_Call_Name_kw (ld_blt I hg hm hb (PyProof.Rows.callWith_builtin1 ?_ hst (by rfl)))
  rw [hst]
  show wpAny _ _ (spliced ((false, eval (.GeneratorExp elt [⟨.Name x px, iter, [], 0⟩] sc gpos) X.env) :: backTo pos (starEach [] X.env))) _ _ s
  refine Calls.spliced_cons (gx_make (k := k) (Rel := noRel) hr TB hcode S hi he hs I h fun a s5 hB => Calls.spliced_nil ?_)
  obtain ⟨g, cd, H4, hgen, hfresh, I5, ha, wake⟩ := hB
  refine call_function_tree F.kind_all F.plain_all F.entry_all (F.args_all1 _) ?_
  unfold Builtin.«all»
  refine wpAny_bind (m := oneArg "all" _) (wpAny_pure (wpAny_bind (wpAny_pyIter_gen hgen ?_)))
  obtain ⟨Z, q, W, m0, fin, seg⟩ := wake X.A.in1.in1 none (s5.setGen g .running) ((hr.mono (by omega : k + 1 + 1 + 1 ≤ k + 3)).in1.in1) I.ok.frames (fun S z => by cases z) (fun _ _ e => e) rfl (allBare_setGen I5.bare rfl)
  refine wpAny_pure ⟨plainId_quiet F.plain_all_loop _, all_turns (Qb := fun b H => Q (.bl b) H) hr.hd hr.depth fin (fun b H' s' I' hq => ?_) (m0 + 1) s5 hgen I5.nolimit ⟨_, hfresh, rfl, seg⟩⟩
  exact ⟨.bl b, H', I', rfl, hq⟩
end
end Gx
namespace Gx
open PySem PySem.Spec PyProof.Rows L2 GenW
section
variable {X : Cx} {pins : List (Addr × Obj)} {σ : L2.St} {H : Hp} {s : Shared} {sc : Scope} {x : Str}
theorem cmp_gt {prog : Program} {w : World} {A : Around} {E : Value → Shared → Prop} {i j : Int} {t u : Tok} {Q : Value → Shared → Prop} (h : Q (.bool (decide (i > j))) s) :
    wpAny (model prog w) A (richCompare .Gt (.int i t) (.int j u)) Q E s :=
  CmpOf.ints_gt (P := fun n v => ∃ t, v = .int (if n = 0 then i else j) t) (fun n => if n = 0 then i else j) (fun _ _ h => h) 0 1 _ _ s Q E ⟨t, rfl⟩ ⟨u, rfl⟩ h
def NyMax (W : WT) : Nat → List V → V → Hp → Prop := fun m ys y H => ∃ i : Int, y = .int i ∧ ∃ m', m' < m ∧ W m' (ys ++ [y]) H
theorem MaxRel.first {i : Int} {t : Tok} {ys : List V} (h : MaxRel ys #[]) : MaxRel (ys ++ [.int i]) #[.int i t, .int i t] := by
  obtain ⟨ns, rfl, h | ⟨b, u, e, _⟩⟩ := h
  · rw [h.1]
    exact ⟨[i], rfl, .inr ⟨i, t, rfl, by simp, by simp⟩⟩
  · have := congrArg Array.size e
    simp at this
theorem MaxRel.more {i b : Int} {t u : Tok} {ys : List V} (h : MaxRel ys #[.int b u, .int b u]) : MaxRel (ys ++ [.int i]) (if decide (i > b) = true then #[.int i t, .int i t] else #[.int b u, .int b u]) := by
  obtain ⟨ns, rfl, h | ⟨b', u', e, hb, hm⟩⟩ := h
  · have := congrArg Array.size h.2
    simp at this
  · have e' : b = b' := by
      have := congrArg (fun a : Array Value => a[0]?) e
      simp at this
      exact this.1
    subst e'
    refine ⟨ns ++ [i], by simp, .inr ?_⟩
    by_cases hi : i > b
    · rw [if_pos (decide_eq_true hi)]
      refine ⟨i, t, rfl, by simp, fun z hz => ?_⟩
      rcases List.mem_append.mp hz with q | q
      · exact Int.le_of_lt (Int.lt_of_le_of_lt (hm z q) hi)
      · rw [List.mem_singleton.mp q]; exact Int.le_refl _
    · rw [if_neg (by rw [decide_eq_false hi]; exact Bool.false_ne_true)]
      refine ⟨b, u, rfl, List.mem_append_left _ hb, fun z hz => ?_⟩
      rcases List.mem_append.mp hz with q | q
      · exact hm z q
      · rw [List.mem_singleton.mp q]; omega
theorem MaxRel.last {b : Int} {u : Tok} {ys : List V} {Qm : Int → Hp → Prop} (h : MaxRel ys #[.int b u, .int b u]) (q : NsMax Qm ys H) : Qm b H := by
  obtain ⟨ns, rfl, h | ⟨b', u', e, hb, hm⟩⟩ := h
  · have := congrArg Array.size h.2
    simp at this
  · have e' : b = b' := by
      have := congrArg (fun a : Array Value => a[0]?) e
      simp at this
      exact this.1
    subst e'
    obtain ⟨ms, e1, _, hq⟩ := q
    rw [map_int_inj e1] at hb hm
    exact hq b hb hm
/-- what stands at the consumer's list is what it read -/
theorem held_eq {S : Addr} {Rel : Array Value → Prop} {ps : List (Addr × Obj)} {s₀ : Shared} {acc : Array Value} {c : Nat} (hps : Held (some S) Rel ps) (h0 : ∀ p ∈ ps, s₀.heap.get? p.1 = some p.2) (hS : s₀.heap.get? S = some (lstObj acc c)) :
    ps = [(S, lstObj acc c)] ∧ Rel acc := by
  obtain ⟨acc', c', e, hR⟩ := hps
  subst e
  have q := h0 _ (List.mem_singleton.mpr rfl)
  rw [hS] at q
  injection q with q
  have q1 : (Data.seq acc c : Data) = Data.seq acc' c' := congrArg Obj.data q
  injection q1 with q1 q2
  subst q1 q2
  exact ⟨rfl, hR⟩
theorem max_turns {Z : Cx} {q : List (Addr × Obj)} {W : WT} {Qm : Int → Hp → Prop} {A : Around} {a S : Addr} {g : Nat} {Rr : Result → Shared → Prop} (hh : A.handled = none) (hd : A.depth < recursionLimit) (hSa : S ≠ a) (hSc : S ≠ cStatics)
    (fin : ∀ ps σz Hz s7, Inv Z (q ++ ps) σz Hz s7 → Inv X pins σ Hz s7 ∧ s7.heap.IsGen a g)
    (hin : ∀ (ps : List (Addr × Obj)) σz Hz s7 acc c s8, Inv Z (q ++ ps) σz Hz s7 → ps = [(S, lstObj acc c)] → (∀ b o, b ≠ S → s7.heap.get? b = some o → s8.heap.get? b = some o) → s8.os = s7.os → AllBare s8.gens → Inv X pins σ Hz s8)
    (hdone : ∀ b t H' s', Inv X pins σ H' s' → Qm b H' → Rr (.ok (.ret (.int b t))) s') :
    ∀ (n : Nat) (s : Shared) (acc : Array Value) (c : Nat), (acc = #[] ∨ ∃ b t, acc = #[.int b t, .int b t]) → s.heap.get? S = some (lstObj acc c) → s.heap.IsGen a g → s.heap.NoLimit →
      (∃ gs, s.gens[g]? = some gs ∧ gs.Goes (model X.prog X.w) A.in1.in1 (GRx Z q (some S) MaxRel (NsMax Qm)) (GYx Z q (some S) MaxRel W (NyMax W)) n (.send .none) (s.setGen g .running)) →
      codeAny (model X.prog X.w) A (.builtin "max.loop" ⟨[.ref a, .none, .ref S], []⟩) Rr s := by
  have hname : (toString "max" ++ toString ".loop" : String) = "max.loop" := by decide
  intro n
  induction n using Nat.strongRecOn with
  | ind n ih =>
    intro s acc c hacc hS hg hl ⟨gs, hgs, hgo⟩
    have hgl : g < s.gens.size := (Array.getElem?_eq_some_iff.mp hgs).1
    refine codeAny_builtin F.entry_max_loop ?_; rw [Around.under_plainId F.plain_max_loop _]
    show wpAny _ A.in1 (seqItems? (.ref S) >>= _) _ _ s
    refine wpAny_bind (wpAny_seqItems hS rfl ?_)
    have turn : ∀ (v : Value) (s₁ : Shared) (gs' : GenState) (m : Nat) (ys : List V) (i : Int) (t : Tok) (Hz : Hp) (σz : L2.St) (ps : List (Addr × Obj)) (acc2 : Array Value), g < s₁.gens.size → gs'.bare = true → v = .int i t → m < n + 1 → ps = [(S, lstObj acc c)] → Inv Z (q ++ ps) σz Hz s₁ →
        (∃ m', m' < m ∧ W m' (ys ++ [.int i]) Hz) → MaxRel (ys ++ [.int i]) acc2 → (∃ b t, acc2 = #[.int b t, .int b t]) →
        (∀ s', Woke (some S) (MaxRel (ys ++ [.int i])) s₁ s' → ∀ m', m' < m → W m' (ys ++ [.int i]) Hz → (match (generalizing := false) n with | 0 => False | k + 1 => gs'.Goes (model X.prog X.w) A.in1.in1 (GRx Z q (some S) MaxRel (NsMax Qm)) (GYx Z q (some S) MaxRel W (NyMax W)) k (.send .none) s')) →
        ∀ (s2 : Shared) (c2 : Nat), s2.heap.get? S = some (lstObj acc2 c2) → (∀ b o, b ≠ S → s₁.heap.get? b = some o → s2.heap.get? b = some o) → s2.os = s₁.os → s2.gens = (s₁.setGen g gs').gens →
          codeAny (model X.prog X.w) A (.builtin "max.loop" ⟨[.ref a, .none, .ref S], []⟩) Rr s2 := by
      intro v s₁ gs' m ys i t Hz σz ps acc2 hsz hbare _ hm hps J ⟨m', hm', hw⟩ hR hacc2 hkap s2 c2 hS2 k2 os2 gens2
      cases n with
      | zero => omega
      | succ n =>
        obtain ⟨I1, g1⟩ := fin _ _ _ _ J
        have bare2 : AllBare (s₁.setGen g gs').gens := allBare_setGen I1.bare hbare
        have I2 := hin _ _ _ _ _ _ s2 J hps k2 os2 (by rw [gens2]; exact bare2)
        have size2 : g < s2.gens.size := by
          rw [gens2, setGen_size]; exact hsz
        refine ih n (Nat.lt_succ_self n) s2 acc2 c2 (.inr hacc2) hS2 ?_ I2.nolimit ⟨gs', ?_, ?_⟩
        · obtain ⟨o, nm, qn, ho, r⟩ := g1
          exact ⟨o, nm, qn, k2 a o (Ne.symm hSa) ho, r⟩
        · rw [gens2]; exact setGen_at hsz
        · refine hkap (s2.setGen g .running) ⟨os2, allBare_setGen I2.bare rfl, fun b o hb e => k2 b o (fun z => hb (by rw [z])) e, fun S' z => ?_⟩ m' hm' hw
          cases z
          exact ⟨acc2, c2, hS2, hR⟩
    have nx : ∀ (Q : Option Value → Shared → Prop) (E : Value → Shared → Prop),
        (∀ (v : Value) (s₁ : Shared) (gs' : GenState), gs'.bare = true → g < s₁.gens.size → GYx Z q (some S) MaxRel W (NyMax W) (n - 1) (s.setGen g .running) v s₁ (fun r' s'' => match (generalizing := false) n with
            | 0 => False
            | m + 1 => gs'.Goes (model X.prog X.w) A.in1.in1 (GRx Z q (some S) MaxRel (NsMax Qm)) (GYx Z q (some S) MaxRel W (NyMax W)) m r' s'') → Q (some v) (s₁.setGen g gs')) →
        (∀ s₁, GFx Z q (some S) MaxRel (NsMax Qm) (s.setGen g .running) s₁ → ∀ h', (∀ b o, s₁.heap.get? b = some o → h'.get? b = some o) → Q none { s₁.setGen g .finished with heap := h' }) →
        wpAny (model X.prog X.w) A.in1 (pyNext (.ref a)) Q E s := fun Q E hY hP =>
      wpAny_gsz (n := g + 1) hgl (next_genG (A := A.in1) hh hl hd hg hgs hgo (fun v s₁ gs' hbare hv hsz => hY v s₁ gs' hbare (by
        have q1 : (s₁.setGen g gs').gens.size = s₁.gens.size := setGen_size _ _ _
        have q2 : g + 1 ≤ (s₁.setGen g gs').gens.size := hsz
        omega) hv) (fun s₁ hp h' hk _ => hP s₁ hp h' hk) fun e s₁ he => he.elim)
    rcases hacc with rfl | ⟨b, tb, rfl⟩
    · show wpAny _ A.in1 (tryCatch (pyNext (.ref a)) _ >>= _) _ _ s
      refine wpAny_bind (wpAny_tryCatch (nx _ _ (fun v s₁ gs' hbare hsz hv => ?_) fun s₁ hp h' hk => ?_))
      · obtain ⟨m, ys, y, σz, Hz, ps, hm, rv, hps, h0, J, ⟨i, ey, hw⟩, hkap⟩ := hv
        subst ey
        obtain ⟨t, rfl⟩ := rv
        obtain ⟨eps, hR⟩ := held_eq hps h0 hS
        have hS1 : s₁.heap.get? S = some (lstObj #[] c) := (J.pin (S, lstObj #[] c) (List.mem_append_right _ (List.mem_append_right _ (by rw [eps]; exact List.mem_singleton.mpr rfl)))).1
        show wpAny _ A.in1 (updateSeq S (fun _ => #[.int i t, .int i t]) >>= _) _ _ _
        refine wpAny_bind (wpAny_updateSeq hS1 rfl ?_)
        rw [hname]
        refine wpAny_pure ⟨plainId_quiet F.plain_max_loop _, turn _ s₁ gs' m ys i t Hz σz ps #[.int i t, .int i t] hsz hbare rfl (by omega) eps J hw hR.first ⟨i, t, rfl⟩ hkap _ _ (Heap.get?_update_self _ hS1 rfl) (fun b o hb e => (Heap.get?_update_other _ _ (Ne.symm hb)).trans e) rfl rfl⟩
      · obtain ⟨ys, σz, Hz, ps, hps, h0, J, hq⟩ := hp
        obtain ⟨eps, hR⟩ := held_eq hps h0 hS
        exact (hR.none hq).elim
    · show wpAny _ A.in1 (tryCatch (pyNext (.ref a)) _ >>= _) _ _ s
      refine wpAny_bind (wpAny_tryCatch (nx _ _ (fun v s₁ gs' hbare hsz hv => ?_) fun s₁ hp h' hk => ?_))
      · obtain ⟨m, ys, y, σz, Hz, ps, hm, rv, hps, h0, J, ⟨i, ey, hw⟩, hkap⟩ := hv
        subst ey
        obtain ⟨t, rfl⟩ := rv
        obtain ⟨eps, hR⟩ := held_eq hps h0 hS
        have hS1 : s₁.heap.get? S = some (lstObj #[.int b tb, .int b tb] c) := (J.pin (S, lstObj _ c) (List.mem_append_right _ (List.mem_append_right _ (by rw [eps]; exact List.mem_singleton.mpr rfl)))).1
        have hR2 := hR.more (i := i) (t := t)
        show wpAny _ A.in1 (tryCatch (holding [.int i t, .int i t] (richCompare .Gt (.int i t) (.int b tb) >>= _)) _ >>= _) _ _ _
        refine wpAny_bind (wpAny_tryCatch (wpAny_holding (wpAny_bind (cmp_gt ?_))))
        refine wpAny_bind (wpAny_holding (wpAny_truthy_bool ?_))
        refine wpAny_bind (wpAny_letGo (wpAny_pure ?_))
        cases hb : decide (i > b) with
        | true =>
          rw [if_pos hb] at hR2
          simp only [if_true]
          refine wpAny_bind (wpAny_updateSeq hS1 rfl (wpAny_bind (wpAny_letGo ?_)))
          rw [hname]
          refine wpAny_pure ⟨plainId_quiet F.plain_max_loop _, turn _ s₁ gs' m ys i t Hz σz ps #[.int i t, .int i t] hsz hbare rfl (by omega) eps J hw hR2 ⟨i, t, rfl⟩ hkap _ _ (Heap.get?_update_self _ hS1 rfl) (fun b o hb e => (Heap.get?_update_other _ _ (Ne.symm hb)).trans e) rfl rfl⟩
        | false =>
          rw [if_neg (by rw [hb]; exact Bool.false_ne_true)] at hR2
          simp only [Bool.false_eq_true, if_false]
          refine wpAny_bind (wpAny_letGo ?_)
          rw [hname]
          exact wpAny_pure ⟨plainId_quiet F.plain_max_loop _, turn _ s₁ gs' m ys i t Hz σz ps #[.int b tb, .int b tb] hsz hbare rfl (by omega) eps J hw hR2 ⟨b, tb, rfl⟩ hkap _ c hS1 (fun _ _ _ e => e) rfl rfl⟩
      · obtain ⟨ys, σz, Hz, ps, hps, h0, J, hq⟩ := hp
        obtain ⟨eps, hR⟩ := held_eq hps h0 hS
        have hS1 : s₁.heap.get? S = some (lstObj #[.int b tb, .int b tb] c) := (J.pin (S, lstObj _ c) (List.mem_append_right _ (List.mem_append_right _ (by rw [eps]; exact List.mem_singleton.mpr rfl)))).1
        obtain ⟨I1, g1⟩ := fin _ _ _ _ J
        show wpAny _ A.in1 (updateSeq S (fun _ => #[]) >>= _) _ _ _
        refine wpAny_bind (wpAny_updateSeq (hk _ _ hS1) rfl (wpAny_bind (wpAny_letGo (wpAny_pure ?_))))
        refine hdone b tb Hz _ (hin _ _ _ _ _ _ _ J eps (fun d o hd' e => (Heap.get?_update_other _ _ (Ne.symm hd')).trans (hk d o e)) rfl (allBare_setGen I1.bare rfl)) (hR.last hq)
/-- max(elt for x in iter), whole numbers -/
def tMaxG (P : Addr) (wi : TI) (te : TE) : TE := fun σ H Q => tGen P wi te NyMax (NsMax fun b H => Q (.int b) H) σ H
theorem pe_maxG {elt iter : Expr} {px p pos gpos : Pos} {c P : Addr} {wi : TI} {te : TE} {k : Nat}
    (hr : Room (k + 3) X.A) (hg : Gl X "max") (hm : X.mg "max" = none) (TB : GxR.TabB X.base X.mg c P) (hcode : X.env.code = .ref c) (Sc : GSc sc x) (hi : PI X (.Name x px) iter wi)
    (he : ∀ (A : Around) (code : Value) (s4 : Shared) (H4 : Hp) (fp : List Addr), Room k (A.deeper (gE X sc s4.heap.objs.size code)) → PE (gCx X A sc x code s4 H4 fp) elt te)
    (hs : ∀ v, genFold iter X.env v = pure v)
    (hst : starEach [.GeneratorExp elt [⟨.Name x px, iter, [], 0⟩] sc gpos] X.env = (false, eval (.GeneratorExp elt [⟨.Name x px, iter, [], 0⟩] sc gpos) X.env) :: starEach [] X.env := by rfl) :
    PE X (.Call (.Name "max" p) [.GeneratorExp elt [⟨.Name x px, iter, [], 0⟩] sc gpos] [] pos) (tMaxG P wi te) := by
  have hname : (toString "max" ++ toString ".loop" : String) = "max.loop" := by decide
  refine ⟨fun pins s σ H Q I h => ?_⟩
  have hb : bootBuiltins "max" = some (.builtin "max") := by decide +kernel
  refine wpAny_Call_Name_kw (ld_blt I hg hm hb (PyProof.Rows.callWith_builtin1 ?_ hst (by rfl)))
  rw [hst]
  show wpAny _ _ (spliced ((false, eval (.GeneratorExp elt [⟨.Name x px, iter, [], 0⟩] sc gpos) X.env) :: backTo pos (starEach [] X.env))) _ _ s
  refine Calls.spliced_cons (gx_make (k := k) (Rel := MaxRel) hr TB hcode Sc hi he hs I h fun a s5 hB => Calls.spliced_nil ?_)
  obtain ⟨g, cd, H4, hgen, hfresh, I5, ha, wake⟩ := hB
  refine call_function_tree F.kind_max F.plain_max F.entry_max (F.args_max1 _) ?_
  show wpAny _ X.A.in1 (Builtin.Builtins.bindParams "max" ["key", "default"] 0 ⟨[], []⟩ >>= _) _ _ s5
  refine wpAny_bind (wpAny_of_eq (show Builtin.Builtins.bindParams "max" ["key", "default"] 0 ⟨[], []⟩ = pure [none, none] from rfl) ?_)
  refine wpAny_bind (wpAny_pure (wpAny_bind (wpAny_pyIter_gen hgen ?_)))
  refine wpAny_bind (wpAny_newObj_type ?_)
  rw [hname]
  have hS5 : (s5.heap.push { cls := .type "list", data := .seq #[] }).get? s5.heap.objs.size = some (lstObj #[] 0) := Heap.get?_push_size _ rfl
  have kp5 : ∀ b o, s5.heap.get? b = some o → (s5.heap.push { cls := .type "list", data := .seq #[] }).get? b = some o := fun b o e => Heap.get?_push_of_some _ e
  have I6 : Inv X pins σ H4 { s5 with heap := s5.heap.push { cls := .type "list", data := .seq #[] } } := regens I5 rfl kp5 I5.bare
  obtain ⟨Z, q, W, m0, fin, seg⟩ := wake X.A.in1.in1 (some s5.heap.objs.size) (({ s5 with heap := s5.heap.push { cls := .type "list", data := .seq #[] } } : Shared).setGen g .running) ((hr.mono (by omega : k + 1 + 1 + 1 ≤ k + 3)).in1.in1) I.ok.frames
    (fun S z => by cases z; exact ⟨Nat.le_refl _, #[], 0, hS5, [], rfl, .inl ⟨rfl, rfl⟩⟩) kp5 rfl (allBare_setGen I6.bare rfl)
  have hcl : cStatics < s5.heap.objs.size := let ⟨_, hn, _⟩ := I5.nolimit; hn.lt
  refine wpAny_pure ⟨plainId_quiet F.plain_max_loop _, max_turns (Qm := fun b H => Q (.int b) H) hr.hd hr.depth (Nat.ne_of_gt ha) (Nat.ne_of_gt hcl) fin (fun ps σz Hz s7 acc c' s8 J eps k8 o8 b8 => ?_) (fun b t H' s' I' hq => ?_) (m0 + 1) _ #[] 0 (.inl rfl) hS5 (hgen.keeps kp5) I6.nolimit ⟨_, hfresh, rfl, seg⟩⟩
  · subst eps
    obtain ⟨h1, h2, h3, h4, _⟩ := J.pin (s5.heap.objs.size, lstObj acc c') (List.mem_append_right _ (List.mem_append_right _ (List.mem_singleton.mpr rfl)))
    obtain ⟨I7, _⟩ := fin _ _ _ _ J
    have ni : ∀ b : Addr, b ∉ [s5.heap.objs.size] → b ≠ s5.heap.objs.size := fun b hb e => hb (by rw [e]; exact List.mem_singleton.mpr rfl)
    have nS : ∀ b u, Hz b = some u → b ≠ s5.heap.objs.size := fun b u e z => by rw [z, h2] at e; cases e
    have kp8 : ∀ b o, b ∉ [s5.heap.objs.size] → s7.heap.get? b = some o → s8.heap.get? b = some o := fun b o hb e => k8 b o (ni b hb) e
    refine I7.call' (ch := [s5.heap.objs.size]) o8 ⟨fun b o e _ _ hx => kp8 b o hx e, fun b o e _ _ hx => ⟨o.slots, kp8 b o hx e⟩, fun _ _ _ n _ => n, fun b o e hx => ⟨o, kp8 b o hx e⟩,
      fun _ _ e => e, fun _ _ _ e => e, fun _ _ e => ⟨#[], by rw [e]; simp⟩⟩ (fun b u e => ?_) b8 fun b hb => ?_
    · refine (I7.hok b u e).stay (fun d v hd z => k8 d v ?_ z) (fun _ z => z) fun _ _ z => z
      rcases hd with z | z
      · rw [z]; exact nS b u e
      · exact nS d _ z
    · rw [List.mem_singleton.mp hb]
      obtain ⟨_, a2, _, a4, a5, a6⟩ := I5.fpOk (Nat.le_refl _) h2
      exact ⟨a4, a2, a5, a6⟩
  · exact ⟨.int b, H', I', ⟨t, rfl⟩, hq⟩
end
end Gx
namespace TG
open PySem L2
/-- the built-ins that the text calls are the built-ins still -/
structure Txt (mg : Str → Option Value) : Prop where
  isin : mg "isinstance" = none
  len : mg "len" = none
  range : mg "range" = none
  max : mg "max" = none
  min : mg "min" = none
  all : mg "all" = none
  str : mg "str" = none
  int : mg "int" = none
  bool : mg "bool" = none
  list : mg "list" = none
  tuple : mg "tuple" = none
  enum : mg "enumerate" = none
  ord : mg "ord" = none
def BoxAt (H : Hp) (b l : Addr) : Prop := ∃ (ns : List Int) (st : Int), H b = some (.lst [.ref l, .int st]) ∧ H l = some (.lst (ns.map V.int)) ∧ ns.length ≤ 63
/-- all but the box stays -/
def KB (b l : Addr) (H H' : Hp) : Prop := ∀ c o, H c = some o → c ≠ b → c ≠ l → H' c = some o
theorem KB.refl {b l : Addr} {H : Hp} : KB b l H H := fun _ _ h _ _ => h
theorem KB.trans {b l : Addr} {H H1 H2 : Hp} (x : KB b l H H1) (y : KB b l H1 H2) : KB b l H H2 := fun c o h n m => y c o (x c o h n m) n m
theorem box_ne {H : Hp} {b l : Addr} (x : BoxAt H b l) : b ≠ l := by
  obtain ⟨ns, st, h1, h2, _⟩ := x
  refine ne_of h1 h2 fun z => ?_
  injection z with z
  cases ns with
  | nil => cases z
  | cons n ns =>
    rw [List.map_cons] at z
    injection z with z _
    cases z
theorem nz {i : Int} (h : i ≠ 0) : i ≠ 0 := h
theorem at0 {α : Type} {v : α} {xs : List α} : atI (v :: xs) 0 = some v := atI_nat (j := 0) rfl
theorem ix0 {n : Nat} : ixN (n + 1) 0 = some 0 := by
  unfold ixN
  rw [if_pos (by decide), if_pos (by omega)]
  rfl
theorem small0 : ([] : List V).length ≤ sizeLine := Nat.zero_le _
theorem dp_ints {K : PySem.W.Frag} {H : Hp} : ∀ ns : List Int, DpAll K H (ns.map V.int) (ns.map PyData.int)
  | [] => .nil
  | n :: ns => .cons (.int n) (dp_ints ns)
theorem canAll_ints : ∀ ns : List Int, PyData.canLayAll0 (ns.map PyData.int) = true
  | [] => rfl
  | _ :: r => by simp [PyData.canLayAll0, PyData.canLay0, canAll_ints r]
theorem depthAll_ints : ∀ ns : List Int, PyData.depthAll (ns.map PyData.int) = 0
  | [] => rfl
  | _ :: r => by simp [PyData.depthAll, PyData.depth, depthAll_ints r]
theorem shaped_of_ints (ns : List Int) : SeqAt.shaped (.list (ns.map PyData.int)) = true := by
  simp [SeqAt.shaped, PyData.canLay0, PyData.depth, canAll_ints, depthAll_ints]
def spTake : Sp := fun vs H Q _ => ∃ (b l : Addr) (many : Int), vs = [.ref b, .int many] ∧ BoxAt H b l ∧ 0 < many ∧ many < 1073741824 ∧
  ∀ (r : Int) (H' : Hp), 0 ≤ r → r < many → BoxAt H' b l → KB b l H H' → Q (.int r) H'
section
variable {P : Program} {w : World} {K : PySem.W.Frag} {mg : Str → Option Value} {base : Heap}
theorem sc_take : FnScope ["_law_box", "_law_many", "_law_number"] ["_law_box", "_law_many"] (defScope s_take) := ⟨rfl, rfl, rfl, by decide +kernel, rfl, by decide +kernel, by decide +kernel⟩
theorem ok_take {f : Addr} {fd : FuncData} (F : Fun K "_law_take" "_law_take" s_take f fd) : FnOk P w K mg base CX0 1 f fd ["_law_box", "_law_many"] spTake := by
  refine F.ok sc_take (fun vs H Q E h => ?_) (fun cdv A outer s H vs Q E hr h => ?_)
  · obtain ⟨b, l, many, rfl, _⟩ := h
    rfl
  · obtain ⟨b, l, many, rfl, hB, m0, m1, k⟩ := h
    have nd := sc_take.nd
    have hu := hr.units
    refine ⟨_, pss_cons (ps_if (pt_cmpR (op_eqD hu) (pe_ix ix_list (pv 0) pe_int (fun _ _ => rfl)) (pe_lst pa_nil) (nomark _))
        (pss_cons (ps_asg (pe_op op_modN (pe_op op_mul (pe_ix ix_list (pv 0) pe_int (fun _ _ => rfl)) pe_int) pe_int) (pg_sub (pv 0) pe_int set_list))
          (pss_one (ps_ret (pe_op op_modN (pe_op op_fdivN (pe_ix ix_list (pv 0) pe_int (fun _ _ => rfl)) pe_int) (pv 1))))) pss_nil)
      (pss_cons (ps_set (i := 2) nd rfl (.inl rfl) (pe_ix ix_list (pe_ix ix_list (pv 0) pe_int (fun _ _ => rfl)) pe_int (fun _ _ => rfl)))
      (pss_cons (ps_asg (pe_op op_fdivN (pv 2) (pv 1)) (pg_sub (pe_ix ix_list (pv 0) pe_int (fun _ _ => rfl)) pe_int set_list))
      (pss_cons (ps_if (PW.pt (pw_or (pt_cmpR op_eq (pe_ix ix_list (pe_ix ix_list (pv 0) pe_int (fun _ _ => rfl)) pe_int (fun _ _ => rfl)) pe_int (nomark _)) (pw_or1 (pt_cmpR op_eq (pe_ix ix_list (pe_ix ix_list (pv 0) pe_int (fun _ _ => rfl)) pe_int (fun _ _ => rfl)) (pe_un un_neg pe_int) (nomark _)))))
          (pss_one (ps_expr (pe_bm PySem.F.plainAttrs_list PySem.F.slot_list_pop PySem.F.type_list_pop mt_popAt (pe_ix ix_list (pv 0) pe_int (fun _ _ => rfl)) (pa_cons pe_int pa_nil)))) pss_nil)
      (pss_one (ps_ret (pe_op op_modN (pv 2) (pv 1))))))), ?_⟩
    obtain ⟨ns, st, h1, h2, h3⟩ := id hB
    have nbl := box_ne hB
    have len2 : ∀ o, (upd H b o) l = some (.lst (ns.map V.int)) := fun o => by rw [upd_ne nbl.symm]; exact h2
    -- _law_box[0] == []
    refine ⟨_, rfl, b, _, 0, .ref l, rfl, rfl, SqL.of h1, rfl, small0, fun p np => ?_⟩
    have npb : b ≠ p := ne_of_none h1 np
    have npl : l ≠ p := ne_of_none h2 np
    have g1 : (upd H p (.lst [])) b = some (.lst [.ref l, .int st]) := by rw [upd_ne npb]; exact h1
    have g2 : (upd H p (.lst [])) l = some (.lst (ns.map V.int)) := by rw [upd_ne npl]; exact h2
    have kp : KB b l H (upd H p (.lst [])) := fun c o e _ _ => by rw [upd_ne (ne_of_none e np)]; exact e
    refine ⟨.list (ns.map PyData.int), .list [], .lst (SqL.of g2) (dp_ints ns), .lst (SqL.of upd_same) .nil, shaped_of_ints ns, rfl, _, rfl, ?_⟩
    cases ns with
    | nil =>
      refine iteT ?_
      refine ⟨_, rfl, b, _, 1, .int st, rfl, rfl, SqL.of g1, rfl, st, 48271, rfl, rfl, .inr (by decide), _, _, rfl, rfl, nz (by decide), _, rfl, b, _, 1, 1, rfl, rfl, g1, rfl, ?_⟩
      refine ⟨_, rfl, b, _, 1, _, rfl, rfl, SqL.of upd_same, rfl, _, _, rfl, rfl, ⟨by decide, by decide⟩, _, rfl, _, _, rfl, rfl, nz (by omega), ?_⟩
      refine k _ _ (Int.fmod_nonneg_of_pos _ m0) (Int.fmod_lt_of_pos _ m0) ⟨[], _, upd_same, by rw [upd_ne nbl.symm]; exact g2, h3⟩ fun c o e hc hl => ?_
      rw [upd_ne hc]
      exact kp c o e hc hl
    | cons n ns =>
      refine iteF ?_
      refine ⟨_, rfl, b, _, 0, .ref l, rfl, rfl, SqL.of g1, rfl, l, _, 0, .int n, rfl, rfl, SqL.of g2, at0, ?_⟩
      refine ⟨_, rfl, _, rfl, n, many, rfl, rfl, ⟨by omega, by omega⟩, _, rfl, b, _, 0, .ref l, rfl, rfl, SqL.of g1, rfl, l, _, 0, 0, rfl, rfl, g2, ix0, ?_⟩
      have j1 : ∀ o, (upd (upd H p (.lst [])) l o) b = some (.lst [.ref l, .int st]) := fun o => by rw [upd_ne nbl]; exact g1
      have kl : ∀ o, KB b l H (upd (upd H p (.lst [])) l o) := fun o c u e hc hl => by rw [upd_ne hl]; exact kp c u e hc hl
      have fin : ∀ ms : List Int, ms.length ≤ 63 → Q (.int (n.fmod many)) (upd (upd H p (.lst [])) l (.lst (ms.map V.int))) := fun ms hm =>
        k _ _ (Int.fmod_nonneg_of_pos _ m0) (Int.fmod_lt_of_pos _ m0) ⟨ms, st, j1 _, upd_same, hm⟩ (kl _)
      have e0 : (List.map V.int (n :: ns)).set 0 (V.int (n.fdiv many)) = List.map V.int (n.fdiv many :: ns) := rfl
      rw [e0]
      -- == 0 or == -1
      refine ⟨_, rfl, b, _, 0, .ref l, rfl, rfl, SqL.of (j1 _), rfl, l, _, 0, .int (n.fdiv many), rfl, rfl, SqL.of upd_same, at0, rfl, _, rfl, ?_⟩
      have done : ∀ H', (∃ ms : List Int, ms.length ≤ 63 ∧ H' = upd (upd H p (.lst [])) l (.lst (ms.map V.int))) → ∃ v, ([some (V.ref b), some (V.int many), some (V.int n)] : L2.St)[2]? = some (some v) ∧ ∃ v_1, ([some (V.ref b), some (V.int many), some (V.int n)] : L2.St)[1]? = some (some v_1) ∧ ∃ i j, v = V.int i ∧ v_1 = V.int j ∧ j ≠ 0 ∧ Q (V.int (i.fmod j)) H' := fun H' ⟨ms, hm, e⟩ => by
        subst e
        exact ⟨_, rfl, _, rfl, n, many, rfl, rfl, nz (by omega), fin ms hm⟩
      have pop : ∀ Z : VK, (∀ y H', H' = upd (upd H p (.lst [])) l (.lst (ns.map V.int)) → Z y H') → rPopAt (.ref l) [.int 0] (upd (upd H p (.lst [])) l (.lst (List.map V.int (n.fdiv many :: ns)))) Z := fun Z hZ =>
        ⟨l, _, 0, 0, _, rfl, rfl, upd_same, by decide, by decide, by simp [seqIndex?], rfl, hZ _ _ (by rw [upd_upd]; rfl)⟩
      have h3' : ns.length ≤ 63 := by simp at h3; omega
      by_cases hz : n.fdiv many = 0
      · rw [decide_eq_true (show V.int (n.fdiv many) = V.int 0 by rw [hz])]
        refine iteT (iteT ⟨_, rfl, b, _, 0, .ref l, rfl, rfl, SqL.of (j1 _), rfl, .inl ⟨rfl, _, SqL.of upd_same⟩, pop _ fun y H' e => done H' ⟨ns, h3', e⟩⟩)
      · rw [decide_eq_false (show ¬ V.int (n.fdiv many) = V.int 0 from fun z => hz (by injection z))]
        refine iteF ⟨_, rfl, b, _, 0, .ref l, rfl, rfl, SqL.of (j1 _), rfl, l, _, 0, .int (n.fdiv many), rfl, rfl, SqL.of upd_same, at0, 1, rfl, rfl, _, rfl, ?_⟩
        refine ite2 (fun _ => ⟨_, rfl, b, _, 0, .ref l, rfl, rfl, SqL.of (j1 _), rfl, .inl ⟨rfl, _, SqL.of upd_same⟩, pop _ fun y H' e => done H' ⟨ns, h3', e⟩⟩) fun _ => ?_
        exact done _ ⟨n.fdiv many :: ns, h3, rfl⟩
end
end TG
namespace TG
open PySem L2
section
variable {P : Program} {w : World} {K : PySem.W.Frag} {mg : Str → Option Value} {base : Heap}
def spBegun (K : PySem.W.Frag) : Sp := fun vs H Q _ => ∃ (a : Addr) (ns : List Int), vs = [.ref a] ∧ SqL K H a (ns.map V.int) ∧ ns.length ≤ 63 ∧
  ∀ (b l : Addr) (H' : Hp), BoxAt H' b l → Same H H' → H b = none → H l = none → Q (.ref b) H'
theorem sc_begun : FnScope ["_law_script", "_law_stirred", "_law_cell_here"] ["_law_script"] (defScope s_begun) := ⟨rfl, rfl, rfl, by decide +kernel, rfl, by decide +kernel, by decide +kernel⟩
theorem ok_begun {f : Addr} {fd : FuncData} (T : Txt mg) (F : Fun K "_law_begun" "_law_begun" s_begun f fd) : FnOk P w K mg base CX0 1 f fd ["_law_script"] (spBegun K) := by
  refine F.ok sc_begun (fun vs H Q E h => ?_) (fun cdv A outer s H vs Q E hr h => ?_)
  · obtain ⟨a, ns, rfl, _⟩ := h
    rfl
  · obtain ⟨a, ns, rfl, hS, hl, k⟩ := h
    have nd := sc_begun.nd
    refine ⟨_, pss_cons (ps_set (i := 1) nd rfl (.inl rfl) pe_int) (pss_cons (ps_for PassesOwn.never rfl (pi_list (pv 0)) (pg_name (i := 2) nd rfl (.inl rfl))
        (pss_one (ps_set (i := 1) nd rfl (.inl rfl) (pe_op op_modN (pe_op op_add (pe_op op_add (pe_op op_mul (pv 1) pe_int) (pe_op op_mul (pv 2) pe_int)) pe_int) pe_int))))
      (pss_one (ps_ret (pe_lst (pa_cons (pe_callTy call_list_of (by rfl) T.list (by decide +kernel) (pa_cons (pv 0) pa_nil))
        (pa_cons (pe_op op_mul (pv 1) (pe_callTy call_int1 (by rfl) T.int (by decide +kernel) (pa_cons (pe_cmpR op_gt (pe_callB call_len_seq (by rfl) T.len PySem.boot_len (pa_cons (pv 0) pa_nil)) pe_int (nomark _)) pa_nil))) pa_nil)))))), ?_⟩
    refine ⟨_, rfl, a, rfl, ⟨_, hS⟩, for_list (xs := ns.map V.int) (fun _ σ H1 => H1 = H ∧ ∃ st c, σ = [some (.ref a), some (.int st), c]) ⟨rfl, 0, _, rfl⟩ (fun i σ H1 _ p => by rw [p.1]; exact hS) ?_ ?_⟩
    · rintro i x σ H1 hx ⟨rfl, st, c, rfl⟩
      obtain ⟨n, rfl⟩ : ∃ n, x = V.int n := by
        rw [List.getElem?_map] at hx
        cases e : ns[i]? with
        | none => rw [e] at hx; cases hx
        | some n => rw [e] at hx; cases hx; exact ⟨n, rfl⟩
      exact ⟨_, rfl, st, 48271, rfl, rfl, .inr (by decide), _, rfl, n, 69621, rfl, rfl, .inr (by decide), _, _, rfl, rfl, _, 11, rfl, rfl, _, 2147483647, rfl, rfl, nz (by decide), rfl, _, _, rfl⟩
    · rintro σ H1 ⟨rfl, st, c, rfl⟩
      refine ⟨_, rfl, a, _, rfl, .inl hS, fun l nl => ?_⟩
      have hS2 : SqL K (upd H1 l (.lst (ns.map V.int))) a (ns.map V.int) := by
        rcases hS with (z | ⟨o, z⟩) | z
        · exact .inl (.inl (by rw [upd_ne (ne_of_none z nl)]; exact z))
        · exact .inl (.inr ⟨o, by rw [upd_ne (ne_of_none z nl)]; exact z⟩)
        · exact .inr z
      refine ⟨_, rfl, _, rfl, a, _, rfl, .inl hS2, _, 2, rfl, rfl, .inr ⟨_, rfl, st, _, rfl, rfl, .inr (by split <;> decide), (by show 2 ≤ sizeLine; decide), fun b nb => ?_⟩⟩
      have nb1 : H1 b = none := by
        by_cases e : b = l
        · rw [e, upd_same] at nb; cases nb
        · rw [upd_ne e] at nb; exact nb
      have nlb : l ≠ b := fun z => by rw [← z, upd_same] at nb; cases nb
      refine k b l _ ⟨ns, _, upd_same, by rw [upd_ne nlb, upd_same], hl⟩ (fun c o e => ?_) nb1 nl
      rw [upd_ne (ne_of_none e nb1), upd_ne (ne_of_none e nl)]
      exact e
theorem ty_list {H : Hp} {a : Addr} {xs : List V} (h : SqL K H a xs) : TyX K H (.ref a) (.type "list") := by
  rcases h with (z | ⟨o, z⟩) | ⟨o, its, n, z, c, _⟩
  · exact .base (.lst z)
  · exact .base (.frz z)
  · exact .kList z c
theorem ty_tup {H : Hp} {a : Addr} {xs : List V} (h : SqT K H a xs) : TyX K H (.ref a) (.type "tuple") := by
  rcases h with (z | ⟨o, z⟩) | ⟨o, its, n, z, c, _⟩
  · exact .base (.tup z)
  · exact .fTuple z
  · exact .kTuple z c
end
end TG
namespace Gx
open PySem PySem.Spec PyProof.Rows L2 GenW
section
variable {J : It} {n : Nat} {G : Hp → Prop} {Y : Nat → Hp → V → Hp → Prop}
/-- all over a walk whose i-th element is f i -/
theorem all_by (w : Walk J n G Y) {te : TE} {Q : VK} {H2 : Hp} (f : Nat → Bool) (Pv : Nat → Hp → Prop) (h0 : Pv 0 H2) (hG : ∀ i H, i ≤ n → Pv i H → G H)
    (hs : ∀ i v H H', i < n → Pv i H → Y i H v H' → ∀ Z : VK, (∀ H3, Pv (i + 1) H3 → Z (.bl (f i)) H3) → te [some v] H' Z)
    (hT : ∀ H, Pv n H → (∀ i, i < n → f i = true) → Q (.bl true) H) (hF : ∀ i H, i < n → f i = false → Pv (i + 1) H → Q (.bl false) H) :
    ∃ W : WT, (∃ m, W m [] H2) ∧ ∀ m ys H, W m ys H → (J.stop ys.length H ∧ (fun (_ : List V) H => Q (.bl true) H) ys H) ∨
      (J.go ys.length H ∧ ∀ v H', J.yld ys.length H v H' → te [some v] H' (NyAll (fun b H => Q (.bl b) H) W m ys)) := by
  refine ⟨fun m ys H => m = n - ys.length ∧ ys.length ≤ n ∧ Pv ys.length H ∧ ∀ i, i < ys.length → f i = true, ⟨n, by simp, Nat.zero_le _, h0, fun i hi => absurd hi (Nat.not_lt_zero _)⟩, ?_⟩
  rintro m ys H ⟨rfl, hl, hp, ht⟩
  have q := hG _ H hl hp
  by_cases hlt : ys.length < n
  · refine .inr ⟨w.goes _ H hlt q, fun v H' y => hs _ v H H' hlt hp (w.yields _ H v H' hlt q y) _ fun H3 p3 => ⟨f ys.length, rfl, ?_⟩⟩
    cases hf : f ys.length with
    | true =>
      refine iteT ⟨n - (ys.length + 1), by omega, by rw [List.length_append, List.length_singleton], by rw [List.length_append, List.length_singleton]; exact hlt, by rw [List.length_append, List.length_singleton]; exact p3, fun i hi => ?_⟩
      rw [List.length_append, List.length_singleton] at hi
      by_cases e : i = ys.length
      · rw [e]; exact hf
      · exact ht i (by omega)
    | false => exact iteF (hF _ H3 hlt hf p3)
  · have e : ys.length = n := by omega
    exact .inl ⟨by rw [e]; exact w.stops H q, hT H (e ▸ hp) fun i hi => ht i (by omega)⟩
/-- max over a walk whose i-th element is g i -/
theorem max_by (w : Walk J n G Y) {te : TE} {Qm : Int → Hp → Prop} {H2 : Hp} (g : Nat → Int) (hn : 0 < n) (Pv : Nat → Hp → Prop) (h0 : Pv 0 H2) (hG : ∀ i H, i ≤ n → Pv i H → G H)
    (hs : ∀ i v H H', i < n → Pv i H → Y i H v H' → ∀ Z : VK, (∀ H3, Pv (i + 1) H3 → Z (.int (g i)) H3) → te [some v] H' Z)
    (hd : ∀ b H, Pv n H → (∃ i, i < n ∧ g i = b) → (∀ i, i < n → g i ≤ b) → Qm b H) :
    ∃ W : WT, (∃ m, W m [] H2) ∧ ∀ m ys H, W m ys H → (J.stop ys.length H ∧ NsMax Qm ys H) ∨
      (J.go ys.length H ∧ ∀ v H', J.yld ys.length H v H' → te [some v] H' (NyMax W m ys)) := by
  refine ⟨fun m ys H => m = n - ys.length ∧ ys.length ≤ n ∧ Pv ys.length H ∧ ys = ((List.range ys.length).map g).map V.int, ⟨n, by simp, Nat.zero_le _, h0, rfl⟩, ?_⟩
  rintro m ys H ⟨rfl, hl, hp, ht⟩
  have q := hG _ H hl hp
  by_cases hlt : ys.length < n
  · refine .inr ⟨w.goes _ H hlt q, fun v H' y => hs _ v H H' hlt hp (w.yields _ H v H' hlt q y) _ fun H3 p3 => ⟨g ys.length, rfl, n - (ys.length + 1), by omega, by rw [List.length_append, List.length_singleton], by rw [List.length_append, List.length_singleton]; exact hlt, by rw [List.length_append, List.length_singleton]; exact p3, ?_⟩⟩
    rw [List.length_append, List.length_singleton, List.range_succ, List.map_append, List.map_append, ← ht]
    rfl
  · have e : ys.length = n := by omega
    refine .inl ⟨by rw [e]; exact w.stops H q, (List.range ys.length).map g, ht, fun z => ?_, fun b hb hm => hd b H (e ▸ hp) ?_ fun i hi => hm _ (List.mem_map.mpr ⟨i, List.mem_range.mpr (by omega), rfl⟩)⟩
    · have := congrArg List.length z
      rw [List.length_map, List.length_range, List.length_nil] at this
      omega
    · obtain ⟨i, hi, e2⟩ := List.mem_map.mp hb
      exact ⟨i, by have := List.mem_range.mp hi; omega, e2⟩
end
def Tabs (cs : List (Addr × Addr)) (H : Hp) : Prop := ∀ p ∈ cs, GxR.TabG H p.2
theorem tab_ext {P : Addr} {H H' : Hp} (t : GxR.TabG H P) (x : GxR.Tabbed P H H') : LamX.ExtN H H' := fun b o e n => by
  by_cases hb : b = P
  · obtain ⟨ps, h1, _⟩ := t
    rw [hb, h1] at e
    cases e
    exact absurd rfl (n ps)
  · rw [x.2 b hb]; exact e
theorem tabs_tab {cs : List (Addr × Addr)} {P : Addr} {H H' : Hp} (t : Tabs cs H) (x : GxR.Tabbed P H H') : Tabs cs H' := fun p hp => by
  by_cases hb : p.2 = P
  · rw [hb]; exact x.1
  · obtain ⟨ps, h1, h2⟩ := t p hp
    exact ⟨ps, by rw [x.2 _ hb]; exact h1, h2⟩
/-- all but tables stays, the tables are tables -/
structure Ex (cs : List (Addr × Addr)) (H H' : Hp) : Prop where
  ext : LamX.ExtN H H'
  tab : Tabs cs H'
  old : ∀ b, H' b = none → H b = none
  oth : ∀ b o, H b = some o → (∀ p ∈ cs, p.2 ≠ b) → H' b = some o
theorem Ex.refl {cs : List (Addr × Addr)} {H : Hp} (t : Tabs cs H) : Ex cs H H := ⟨LamX.ExtN.refl H, t, fun _ h => h, fun _ _ e _ => e⟩
theorem Ex.trans {cs : List (Addr × Addr)} {H H1 H2 : Hp} (a : Ex cs H H1) (b : Ex cs H1 H2) : Ex cs H H2 := ⟨a.ext.trans b.ext, b.tab, fun c h => a.old c (b.old c h), fun c o e m => b.oth c o (a.oth c o e m) m⟩
theorem Ex.tabbed {cs : List (Addr × Addr)} {q : Addr × Addr} {H H' : Hp} (t : Tabs cs H) (m : q ∈ cs) (x : GxR.Tabbed q.2 H H') : Ex cs H H' := ⟨tab_ext (t q m) x, tabs_tab t x, fun b h => by
  by_cases hb : b = q.2
  · obtain ⟨ps, h1, _⟩ := x.1
    rw [hb, h1] at h
    cases h
  · rw [x.2 b hb] at h; exact h, fun b o e n => by
  rw [x.2 b (fun z => n q m z.symm)]
  exact e⟩
theorem upd_none {H : Hp} {a b : Addr} {o : HO} (h : upd H a o b = none) : H b = none ∧ b ≠ a := by
  by_cases hb : b = a
  · rw [hb, upd_same] at h; cases h
  · rw [upd_ne hb] at h; exact ⟨h, hb⟩
theorem Ex.laid {cs : List (Addr × Addr)} {H : Hp} {a : Addr} {o : HO} (t : Tabs cs H) (n : H a = none) : Ex cs H (upd H a o) :=
  ⟨fun b u e _ => by rw [upd_ne (ne_of_none e n)]; exact e, fun p hp => by
    obtain ⟨ps, h1, h2⟩ := t p hp
    exact ⟨ps, by rw [upd_ne (ne_of_none h1 n)]; exact h1, h2⟩, fun b h => (upd_none h).1, fun b u e _ => by
    rw [upd_ne (ne_of_none e n)]
    exact e⟩
/-- a new object, written again -/
theorem ex_new {cs : List (Addr × Addr)} {H H' : Hp} {D : Addr} {o : HO} (t : Tabs cs H) (e : Ex cs H H') (n : H D = none) : Ex cs H (upd H' D o) :=
  ⟨fun b u h m => by rw [upd_ne (ne_of_none h n)]; exact e.ext b u h m, fun p hp => by
    obtain ⟨ps, h1, _⟩ := t p hp
    obtain ⟨ps', h3, h4⟩ := e.tab p hp
    exact ⟨ps', by rw [upd_ne (ne_of_none h1 n)]; exact h3, h4⟩, fun b h => e.old b (upd_none h).1, fun b u h m => by
    rw [upd_ne (ne_of_none h n)]
    exact e.oth b u h m⟩
theorem Ex.lst {cs : List (Addr × Addr)} {H H' : Hp} {a : Addr} {xs : List V} (e : Ex cs H H') (h : H a = some (.lst xs)) : H' a = some (.lst xs) := e.ext _ _ h fun ps q => by cases q
theorem Ex.tup {cs : List (Addr × Addr)} {H H' : Hp} {a : Addr} {xs : List V} (e : Ex cs H H') (h : H a = some (.tup xs)) : H' a = some (.tup xs) := e.ext _ _ h fun ps q => by cases q
theorem Ex.sqL {cs : List (Addr × Addr)} {K : PySem.W.Frag} {H H' : Hp} {a : Addr} {xs : List V} (e : Ex cs H H') (h : SqL K H a xs) : SqL K H' a xs := by
  rcases h with (z | ⟨o, z⟩) | z
  · exact .inl (.inl (e.ext _ _ z fun ps q => by cases q))
  · exact .inl (.inr ⟨o, e.ext _ _ z fun ps q => by cases q⟩)
  · exact .inr z
theorem Ex.sqT {cs : List (Addr × Addr)} {K : PySem.W.Frag} {H H' : Hp} {a : Addr} {xs : List V} (e : Ex cs H H') (h : SqT K H a xs) : SqT K H' a xs := by
  rcases h with (z | ⟨o, z⟩) | z
  · exact .inl (.inl (e.ext _ _ z fun ps q => by cases q))
  · exact .inl (.inr ⟨o, e.ext _ _ z fun ps q => by cases q⟩)
  · exact .inr z
/-- a def whose code object is known -/
theorem fun_okT {P : Program} {w : World} {K : PySem.W.Frag} {mg : Str → Option Value} {base : Heap} {x qual : Str} {st : Stmt} {f c : Addr} {fd : FuncData} {N ps : List Str} {k : Nat} {sp : Sp} (F : Fun K x qual st f fd) (hc : fd.code = .ref c) (S : FnScope N ps (defScope st)) (len : ∀ vs H Q E, sp vs H Q E → vs.length = ps.length)
    (hbody : ∀ (A : Around) (outer : List Env) (s : Shared) (H : Hp) (vs : List V) (Q : VK) (E : XK), Room k (A.deeper (envOfC qual (defScope st) s.heap.objs.size f (.ref c))) → sp vs H Q E →
      ∃ t, PSs (cxOf CX0 P w K mg base N qual (defScope st) f (.ref c) A outer s H E).nox (defBody st) t ∧ t { nx := fun _ H' => Q .non H', rt := Q } (start N vs) H) : FnOk P w K mg base CX0 (k + 1) f fd ps sp := by
  obtain ⟨oc, od, kV, doc, pm, an, cdv, ct, osl, rfl, lk, hcd⟩ := F.ex
  have e : cdv = .ref c := hc
  subst e
  refine fn_of lk hcd S len fun A outer s H vs Q E hr hsp => ?_
  obtain ⟨t, h, q⟩ := hbody A outer s H vs Q E hr hsp
  exact ⟨t, h.nox, q⟩
end Gx
namespace TG
open PySem L2 Gx
structure CellOk (z : Str) : Prop where
  len : z.length ≤ 10
  sg : ∀ c ∈ z.cps.toList, SgOk c
structure RowOk (r : List Str) : Prop where
  pos : 1 ≤ r.length
  len : r.length ≤ 6
  cells : ∀ z ∈ r, CellOk z
abbrev sV (r : List Str) : List V := r.map V.str
theorem line10 {n : Nat} (h : n ≤ 1000) : n ≤ sizeLine := Nat.le_trans h (by decide)
theorem dT {c : Prop} [Decidable c] (h : c) : V.bl (decide c) = V.bl true := by rw [decide_eq_true h]
theorem dF {c : Prop} [Decidable c] (h : ¬ c) : V.bl (decide c) = V.bl false := by rw [decide_eq_false h]
theorem qT {c : Prop} [Decidable c] {Q : VK} {H : Hp} (h : c) (k : Q (.bl true) H) : Q (.bl (decide c)) H := by rw [decide_eq_true h]; exact k
theorem qN {c : Prop} [Decidable c] {Q : VK} {H : Hp} (h : ¬ c) (k : Q (.bl true) H) : Q (.bl (!decide c)) H := by rw [decide_eq_false h]; exact k
structure Consts (mg : Str → Option Value) : Prop where
  blank : ∃ t, mg "BLANK" = some (.int 32 t)
  tilde : ∃ t, mg "TILDE" = some (.int 126 t)
  percent : ∃ t, mg "PERCENT" = some (.int 37 t)
  rows : ∃ t, mg "MOST_ROWS" = some (.int 30 t)
  cells : ∃ t, mg "MOST_CELLS" = some (.int 6 t)
  signs : ∃ t, mg "MOST_SIGNS" = some (.int 10 t)
  gap : ∃ t, mg "MOST_GAP" = some (.int 4 t)
  least : ∃ t, mg "MOST_LEAST" = some (.int 12 t)
section
variable {P : Program} {w : World} {K : PySem.W.Frag} {mg : Str → Option Value} {base : Heap}
def spWhole : Sp := fun vs H Q _ => ∃ (i lo hi : Int), vs = [.int i, .int lo, .int hi] ∧ lo ≤ i ∧ i ≤ hi ∧ Q (.bl true) H
theorem sc_whole : FnScope ["value", "low", "high"] ["value", "low", "high"] (defScope s_is_whole) := ⟨rfl, rfl, rfl, by decide +kernel, rfl, by decide +kernel, by decide +kernel⟩
theorem ok_whole {f : Addr} {fd : FuncData} (T : Txt mg) (F : Fun K "is_whole" "is_whole" s_is_whole f fd) : FnOk P w K mg base CX0 1 f fd ["value", "low", "high"] spWhole := by
  refine F.ok sc_whole (fun vs H Q E h => ?_) (fun cdv A outer s H vs Q E hr h => ?_)
  · obtain ⟨i, lo, hi, rfl, _⟩ := h
    rfl
  · obtain ⟨i, lo, hi, rfl, h1, h2, k⟩ := h
    refine ⟨_, pss_one (ps_ret (pe_and (pe_callB call_isi (by rfl) T.isin (by decide +kernel) (pa_cons (pv 0) (pa_cons (pe_bltn (v := .ty "int") (by rfl) T.int (by decide +kernel) rfl) pa_nil)))
      (pe_and (pe_not (pe_callB call_isi (by rfl) T.isin (by decide +kernel) (pa_cons (pv 0) (pa_cons (pe_bltn (v := .ty "bool") (by rfl) T.bool (by decide +kernel) rfl) pa_nil)))) (pe_one (pe_chain op_le op_le (pv 1) (pv 0) (pv 2)))))), ?_⟩
    exact ⟨_, rfl, _, _, _, _, true, rfl, .ty _, .base (.int i), kit_ty (by decide +kernel), true, rfl, iteT ⟨_, rfl, _, _, _, _, false, rfl, .ty _, .base (.int i), kit_ty (by decide +kernel), false, rfl, true, rfl, iteT
      ⟨_, rfl, _, rfl, lo, i, rfl, rfl, true, dT h1, iteT ⟨_, rfl, i, hi, rfl, rfl, qT h2 k⟩⟩⟩⟩
def spSg : Sp := fun vs H Q _ => ∃ c : Nat, vs = [.str ⟨#[c]⟩] ∧ SgOk c ∧ Q (.bl true) H
theorem sc_sg : FnScope ["sign"] ["sign"] (defScope s_is_sign) := ⟨rfl, rfl, rfl, by decide +kernel, rfl, by decide +kernel, by decide +kernel⟩
theorem ok_sg {f : Addr} {fd : FuncData} (T : Txt mg) (N : Consts mg) (F : Fun K "is_sign" "is_sign" s_is_sign f fd) : FnOk P w K mg base CX0 1 f fd ["sign"] spSg := by
  refine F.ok sc_sg (fun vs H Q E h => ?_) (fun cdv A outer s H vs Q E hr h => ?_)
  · obtain ⟨c, rfl, _⟩ := h
    rfl
  · obtain ⟨c, rfl, ⟨h1, h2, h3⟩, k⟩ := h
    obtain ⟨t1, e1⟩ := N.blank
    obtain ⟨t2, e2⟩ := N.tilde
    obtain ⟨t3, e3⟩ := N.percent
    refine ⟨_, pss_one (ps_ret (pe_and (pe_chain op_le op_le (pe_glob (v := .int 32) rfl e1 ⟨_, rfl⟩) (pe_callB call_ord (by rfl) T.ord (by decide +kernel) (pa_cons (pv 0) pa_nil)) (pe_glob (v := .int 126) rfl e2 ⟨_, rfl⟩))
      (pe_one (pe_cmpR op_ne (pe_callB call_ord (by rfl) T.ord (by decide +kernel) (pa_cons (pv 0) pa_nil)) (pe_glob (v := .int 37) rfl e3 ⟨_, rfl⟩) (nomark _))))), ?_⟩
    refine ⟨_, rfl, _, rfl, rfl, 32, (c : Int), rfl, rfl, true, dT (show (32 : Int) ≤ c by omega), iteT ⟨(c : Int), 126, rfl, rfl, ?_⟩⟩
    have e4 : V.bl (decide ((c : Int) ≤ 126)) = V.bl true := dT (by omega)
    refine ⟨true, e4, iteT ⟨_, rfl, _, rfl, rfl, rfl, qN (fun z => ?_) k⟩⟩
    injection z with z
    exact h3 (Int.ofNat.inj z)
def spText (cs : List (Addr × Addr)) : Sp := fun vs H Q _ => ∃ (z : Str) (m : Int), vs = [.str z, .int m] ∧ Tabs cs H ∧ (z.length : Int) ≤ m ∧ z.length ≤ 1000 ∧ (∀ c ∈ z.cps.toList, SgOk c) ∧ ∀ H', Ex cs H H' → Q (.bl true) H'
theorem sc_text : FnScope ["value", "most"] ["value", "most"] (defScope s_is_text) := ⟨rfl, rfl, rfl, by decide +kernel, rfl, by decide +kernel, by decide +kernel⟩
theorem ok_text {f c Pt g : Addr} {fd fdg : FuncData} {cs : List (Addr × Addr)} (T : Txt mg) (F : Fun K "is_text_of_signs" "is_text_of_signs" s_is_text f fd) (hc : fd.code = .ref c) (TB : GxR.TabB base mg c Pt) (hm : (c, Pt) ∈ cs)
    (G : FnOk P w K mg base CX0 1 g fdg ["sign"] spSg) (kp : PySem.W.keepIn K (.ref g) = true) (bd : Binds K fdg ["sign"] []) (mgg : mg "is_sign" = some (.ref g)) : FnOk P w K mg base CX0 5 f fd ["value", "most"] (spText cs) := by
  refine fun_okT F hc sc_text (fun vs H Q E h => ?_) (fun A outer s H vs Q E hr h => ?_)
  · obtain ⟨z, m, rfl, _⟩ := h
    rfl
  · obtain ⟨z, m, rfl, hT, h1, h2, h3, k⟩ := h
    refine ⟨_, pss_one (ps_ret (pe_and (pe_callB call_isi (by rfl) T.isin (by decide +kernel) (pa_cons (pv 0) (pa_cons (pe_bltn (v := .ty "str") (by rfl) T.str (by decide +kernel) rfl) pa_nil)))
      (pe_and (pe_cmpR op_le (pe_callB call_len_str (by rfl) T.len PySem.boot_len (pa_cons (pv 0) pa_nil)) (pv 1) (nomark _))
        (pe_one (pe_allG (k := 1) (P := Pt) hr (by rfl) T.all TB rfl ⟨rfl, rfl, by decide +kernel, by decide +kernel, rfl, rfl⟩ (pi_str (pv 0)) (fun A' code s4 H4 fp hr' => pe_call G hr' (by rfl) mgg kp bd .nil pass0 (pa_cons (pv 0) pa_nil)) (fun _ => rfl)))))), ?_⟩
    refine ⟨_, rfl, _, _, _, _, true, rfl, .ty _, .base (.str z), kit_ty (by decide +kernel), true, rfl, iteT ⟨_, rfl, z, rfl, line10 h2, _, rfl, _, _, rfl, rfl, true, dT h1, iteT ⟨_, rfl, z, rfl, hT _ hm, fun H2 hH2 => ?_⟩⟩⟩
    refine all_by (w := walk_str (z := z)) (fun _ => true) (fun _ H' => H' = H2) rfl (fun _ _ _ _ => trivial) (fun i v H3 H4 hi e y Z hZ => ?_) (fun H3 e _ => ?_) (fun i H3 _ e _ => by cases e)
    · obtain ⟨rfl, c, hc, rfl⟩ := y
      subst e
      refine ⟨_, rfl, c, rfl, h3 c ?_, hZ _ rfl⟩
      exact List.mem_of_getElem? (by rw [Array.getElem?_toList]; exact hc)
    · subst e
      exact k _ (Ex.tabbed hT hm hH2)
end
end TG
namespace TG
open PySem L2 Gx
/-- a page: its rows' tuples at as -/
structure PageAt (K : PySem.W.Frag) (H : Hp) (a : Addr) (as : List Addr) (rows : List (List Str)) : Prop where
  lst : SqL K H a (as.map V.ref)
  len : as.length = rows.length
  row : ∀ (i : Nat) (p : Addr) (r : List Str), as[i]? = some p → rows[i]? = some r → SqT K H p (sV r)
structure PgOk (rows : List (List Str)) : Prop where
  pos : 1 ≤ rows.length
  len : rows.length ≤ 30
  rows : ∀ r ∈ rows, RowOk r
theorem PageAt.ex {K : PySem.W.Frag} {cs : List (Addr × Addr)} {H H' : Hp} {a : Addr} {as : List Addr} {rows : List (List Str)} (p : PageAt K H a as rows) (e : Ex cs H H') : PageAt K H' a as rows :=
  ⟨e.sqL p.lst, p.len, fun i q r h1 h2 => e.sqT (p.row i q r h1 h2)⟩
theorem get_map {α β : Type} {f : α → β} {xs : List α} {i : Nat} {y : β} (h : (xs.map f)[i]? = some y) : ∃ x, xs[i]? = some x ∧ y = f x := by
  rw [List.getElem?_map] at h
  cases e : xs[i]? with
  | none => rw [e] at h; cases h
  | some x => rw [e] at h; cases h; exact ⟨x, rfl, rfl⟩
theorem getP {α : Type} {xs : List α} {i : Nat} (h : i < xs.length) : ∃ x, xs[i]? = some x := ⟨xs[i], List.getElem?_eq_getElem h⟩
section
variable {P : Program} {w : World} {K : PySem.W.Frag} {mg : Str → Option Value} {base : Heap} {cs : List (Addr × Addr)}
def spRow (K : PySem.W.Frag) (cs : List (Addr × Addr)) : Sp := fun vs H Q _ => ∃ (a : Addr) (r : List Str), vs = [.ref a] ∧ Tabs cs H ∧ SqT K H a (sV r) ∧ RowOk r ∧ ∀ H', Ex cs H H' → Q (.bl true) H'
theorem sc_row : FnScope ["value"] ["value"] (defScope s_is_row) := ⟨rfl, rfl, rfl, by decide +kernel, rfl, by decide +kernel, by decide +kernel⟩
theorem ok_isrow {f c Pt g : Addr} {fd fdg : FuncData} (T : Txt mg) (N : Consts mg) (F : Fun K "is_row" "is_row" s_is_row f fd) (hc : fd.code = .ref c) (TB : GxR.TabB base mg c Pt) (hm : (c, Pt) ∈ cs)
    (G : FnOk P w K mg base CX0 5 g fdg ["value", "most"] (spText cs)) (kp : PySem.W.keepIn K (.ref g) = true) (bd : Binds K fdg ["value", "most"] []) (mgg : mg "is_text_of_signs" = some (.ref g)) : FnOk P w K mg base CX0 9 f fd ["value"] (spRow K cs) := by
  refine fun_okT F hc sc_row (fun vs H Q E h => ?_) (fun A outer s H vs Q E hr h => ?_)
  · obtain ⟨a, r, rfl, _⟩ := h
    rfl
  · obtain ⟨a, r, rfl, hT, hS, ⟨p1, p2, p3⟩, k⟩ := h
    obtain ⟨t1, e1⟩ := N.cells
    obtain ⟨t2, e2⟩ := N.signs
    refine ⟨_, pss_cons (ps_if (PW.pt (pw_or (pt_not (pt_val (pe_callB call_isi (by rfl) T.isin (by decide +kernel) (pa_cons (pv 0) (pa_cons (pe_bltn (v := .ty "tuple") (by rfl) T.tuple (by decide +kernel) rfl) pa_nil)))))
        (pw_or1 (pt_not (pt_chain op_le op_le pe_int (pe_callB call_len_seq (by rfl) T.len PySem.boot_len (pa_cons (pv 0) pa_nil)) (pe_glob (v := .int 6) rfl e1 ⟨_, rfl⟩)))))) (pss_one (ps_ret pe_bl)) pss_nil)
      (pss_one (ps_ret (pe_allG (k := 5) (P := Pt) hr (by rfl) T.all TB rfl ⟨rfl, rfl, by decide +kernel, by decide +kernel, rfl, rfl⟩ (pi_tup (pv 0))
        (fun A' code s4 H4 fp hr' => pe_call G hr' (by rfl) mgg kp bd .nil pass0 (pa_cons (pv 0) (pa_cons (pe_glob (v := .int 10) rfl e2 ⟨_, rfl⟩) pa_nil))) (fun _ => rfl)))), ?_⟩
    have hl : (sV r).length = r.length := List.length_map ..
    refine ⟨_, rfl, _, _, _, _, true, rfl, .ty _, ty_tup hS, kit_ty (by decide +kernel), true, rfl, iteF ⟨_, rfl, a, _, rfl, .inr hS, 1, _, rfl, rfl, true, dT (by omega), iteT ⟨_, 6, rfl, rfl, true, dT (by omega), iteF ?_⟩⟩⟩
    refine ⟨_, rfl, a, rfl, ⟨_, hS⟩, hT _ hm, fun H2 hH2 => ?_⟩
    have x2 := Ex.tabbed hT hm hH2
    refine all_by (w := walk_tup (a := a) (xs := sV r)) (fun _ => true) (fun _ H' => Ex cs H H') x2 (fun i H' _ x => x.sqT hS) (fun i v H3 H4 hi x y Z hZ => ?_) (fun H3 x _ => k _ x) (fun i H3 _ e _ => by cases e)
    obtain ⟨rfl, hv⟩ := y
    obtain ⟨z, hz, rfl⟩ := get_map hv
    obtain ⟨c1, c2⟩ := p3 z (List.mem_of_getElem? hz)
    exact ⟨_, rfl, z, 10, rfl, x.tab, by omega, by omega, c2, fun H5 x5 => hZ _ (x.trans x5)⟩
def spCheck (K : PySem.W.Frag) (cs : List (Addr × Addr)) : Sp := fun vs H Q _ => ∃ (a : Addr) (as : List Addr) (rows : List (List Str)), vs = [.ref a] ∧ Tabs cs H ∧ PageAt K H a as rows ∧ PgOk rows ∧ ∀ H', Ex cs H H' → Q .non H'
theorem sc_misfit : FnScope ["rows", "number", "row"] ["rows"] (defScope s_misfit) := ⟨rfl, rfl, rfl, by decide +kernel, rfl, by decide +kernel, by decide +kernel⟩
theorem ok_misfit {f g : Addr} {fd fdg : FuncData} (T : Txt mg) (N : Consts mg) (F : Fun K "first_misfit" "first_misfit" s_misfit f fd)
    (G : FnOk P w K mg base CX0 9 g fdg ["value"] (spRow K cs)) (kp : PySem.W.keepIn K (.ref g) = true) (bd : Binds K fdg ["value"] []) (mgg : mg "is_row" = some (.ref g)) : FnOk P w K mg base CX0 10 f fd ["rows"] (spCheck K cs) := by
  refine F.ok sc_misfit (fun vs H Q E h => ?_) (fun cdv A outer s H vs Q E hr h => ?_)
  · obtain ⟨a, as, rows, rfl, _⟩ := h
    rfl
  · obtain ⟨a, as, rows, rfl, hT, hP, hO, k⟩ := h
    have nd := sc_misfit.nd
    obtain ⟨t1, e1⟩ := N.rows
    refine ⟨_, pss_cons (ps_for PassesOwn.never rfl (pi_enum (by rfl) T.enum (pa_cons (pv 0) pa_nil)) (pg_tup rfl (pgs_cons (pg_name (i := 1) nd rfl (.inl rfl)) (pgs_cons (pg_name (i := 2) nd rfl (.inl rfl)) pgs_nil)))
        (pss_one (ps_if (PW.pt (pw_or (pt_cmpR op_eq (pv 1) (pe_glob (v := .int 30) rfl e1 ⟨_, rfl⟩) (nomark _)) (pw_or1 (pt_not (pt_val (pe_call G hr (by rfl) mgg kp bd .nil pass0 (pa_cons (pv 2) pa_nil))))))) (pss_one ps_never) pss_nil)))
      (pss_one (ps_ret pe_non)), ?_⟩
    have hl : (as.map V.ref).length = rows.length := by rw [List.length_map]; exact hP.len
    have := hO.pos
    have := hO.len
    refine ⟨_, rfl, a, _, rfl, hP.lst, for_it (walk_enum (xs := as.map V.ref)) (fun _ σ H' => Ex cs H H' ∧ σ[0]? = some (some (.ref a)) ∧ σ.length = 3) ⟨Ex.refl hT, rfl, rfl⟩ (fun i σ H' _ x => x.1.sqL hP.lst) ?_ ?_⟩
    · rintro i x σ H3 H4 hi ⟨x3, s0, sl⟩ ⟨Tp, v, u, rfl, hn, rfl, hv, hu⟩
      cases hv
      obtain ⟨p, hp, rfl⟩ := get_map hu
      have hi2 : i < rows.length := by omega
      obtain ⟨r, hr2⟩ := getP hi2
      have xl := Ex.laid (o := .tup [.int (i : Nat), .ref p]) x3.tab hn
      refine ⟨Tp, _, rfl, .inl (.inl upd_same), rfl, _, _, rfl, _, _, rfl, rfl, ?_⟩
      have g1 : ((σ.set 1 (some (V.int (i : Nat)))).set 2 (some (V.ref p)))[1]? = some (some (V.int (i : Nat))) := by
        rw [List.getElem?_set_ne (by decide)]
        exact List.getElem?_set_self (by omega)
      have g2 : ((σ.set 1 (some (V.int (i : Nat)))).set 2 (some (V.ref p)))[2]? = some (some (V.ref p)) := List.getElem?_set_self (by rw [List.length_set]; omega)
      refine ⟨_, g1, rfl, false, dF (fun z => by injection z with z; omega), iteF ⟨_, g2, p, r, rfl, xl.tab, (x3.trans xl).sqT (hP.row i p r hp hr2), hO.rows r (List.mem_of_getElem? hr2), fun H5 x5 => ⟨true, rfl, iteF ⟨(x3.trans xl).trans x5, ?_, ?_⟩⟩⟩⟩
      · rw [List.getElem?_set_ne (by decide), List.getElem?_set_ne (by decide)]; exact s0
      · rw [List.length_set, List.length_set]; exact sl
    · rintro σ H' ⟨x, _⟩
      exact k H' x
theorem sc_check : FnScope ["page", "number"] ["page"] (defScope s_check_page) := ⟨rfl, rfl, rfl, by decide +kernel, rfl, by decide +kernel, by decide +kernel⟩
theorem ok_check {f g : Addr} {fd fdg : FuncData} (T : Txt mg) (F : Fun K "check_page" "check_page" s_check_page f fd)
    (G : FnOk P w K mg base CX0 10 g fdg ["rows"] (spCheck K cs)) (kp : PySem.W.keepIn K (.ref g) = true) (bd : Binds K fdg ["rows"] []) (mgg : mg "first_misfit" = some (.ref g)) : FnOk P w K mg base CX0 11 f fd ["page"] (spCheck K cs) := by
  refine F.ok sc_check (fun vs H Q E h => ?_) (fun cdv A outer s H vs Q E hr h => ?_)
  · obtain ⟨a, as, rows, rfl, _⟩ := h
    rfl
  · obtain ⟨a, as, rows, rfl, hT, hP, hO, k⟩ := h
    have nd := sc_check.nd
    refine ⟨_, pss_cons (ps_if (PW.pt (pw_or (pt_not (pt_val (pe_callB call_isi (by rfl) T.isin (by decide +kernel) (pa_cons (pv 0) (pa_cons (pe_bltn (v := .ty "list") (by rfl) T.list (by decide +kernel) rfl) pa_nil)))))
        (pw_or1 (pt_cmpR op_eq (pe_callB call_len_seq (by rfl) T.len PySem.boot_len (pa_cons (pv 0) pa_nil)) pe_int (nomark _))))) (pss_one ps_never) pss_nil)
      (pss_cons (ps_set (i := 1) nd rfl (.inl rfl) (pe_call G hr (by rfl) mgg kp bd .nil pass0 (pa_cons (pv 0) pa_nil)))
      (pss_one (ps_if (pt_cmpR op_notN (pv 1) pe_non (nomark _)) (pss_one ps_never) pss_nil))), ?_⟩
    have hl : (as.map V.ref).length = rows.length := by rw [List.length_map]; exact hP.len
    have := hO.pos
    have := hO.len
    refine ⟨_, rfl, _, _, _, _, true, rfl, .ty _, ty_list hP.lst, kit_ty (by decide +kernel), true, rfl, iteF ⟨_, rfl, a, _, rfl, .inl hP.lst, rfl, false, dF (fun z => by injection z with z; omega), iteF ?_⟩⟩
    exact ⟨_, rfl, a, as, rows, rfl, hT, hP, hO, fun H' x => ⟨_, rfl, rfl, false, rfl, iteF (k H' x)⟩⟩
structure StyleAt (K : PySem.W.Frag) (H : Hp) (a : Addr) (gap least : Int) : Prop where
  tup : SqT K H a [.int gap, .int least]
  g0 : 0 ≤ gap
  g1 : gap ≤ 4
  l0 : 0 ≤ least
  l1 : least ≤ 12
def spStyle (K : PySem.W.Frag) : Sp := fun vs H Q _ => ∃ (a : Addr) (gap least : Int), vs = [.ref a] ∧ StyleAt K H a gap least ∧ Q .non H
theorem sc_style : FnScope ["style", "gap", "least"] ["style"] (defScope s_check_style) := ⟨rfl, rfl, rfl, by decide +kernel, rfl, by decide +kernel, by decide +kernel⟩
theorem ok_cstyle {f g : Addr} {fd fdg : FuncData} (T : Txt mg) (N : Consts mg) (F : Fun K "check_style" "check_style" s_check_style f fd)
    (G : FnOk P w K mg base CX0 1 g fdg ["value", "low", "high"] spWhole) (kp : PySem.W.keepIn K (.ref g) = true) (bd : Binds K fdg ["value", "low", "high"] []) (mgg : mg "is_whole" = some (.ref g)) : FnOk P w K mg base CX0 2 f fd ["style"] (spStyle K) := by
  refine F.ok sc_style (fun vs H Q E h => ?_) (fun cdv A outer s H vs Q E hr h => ?_)
  · obtain ⟨a, gap, least, rfl, _⟩ := h
    rfl
  · obtain ⟨a, gap, least, rfl, ⟨hS, g0, g1, l0, l1⟩, k⟩ := h
    have nd := sc_style.nd
    obtain ⟨t1, e1⟩ := N.gap
    obtain ⟨t2, e2⟩ := N.least
    refine ⟨_, pss_cons (ps_if (PW.pt (pw_or (pt_not (pt_val (pe_callB call_isi (by rfl) T.isin (by decide +kernel) (pa_cons (pv 0) (pa_cons (pe_bltn (v := .ty "tuple") (by rfl) T.tuple (by decide +kernel) rfl) pa_nil)))))
        (pw_or1 (pt_cmpR op_ne (pe_callB call_len_seq (by rfl) T.len PySem.boot_len (pa_cons (pv 0) pa_nil)) pe_int (nomark _))))) (pss_one ps_never) pss_nil)
      (pss_cons (ps_asg (pv 0) (pg_tup rfl (pgs_cons (pg_name (i := 1) nd rfl (.inl rfl)) (pgs_cons (pg_name (i := 2) nd rfl (.inl rfl)) pgs_nil))))
      (pss_one (ps_if (PW.pt (pw_or (pt_not (pt_val (pe_call G hr (by rfl) mgg kp bd .nil pass0 (pa_cons (pv 1) (pa_cons pe_int (pa_cons (pe_glob (v := .int 4) rfl e1 ⟨_, rfl⟩) pa_nil))))))
        (pw_or1 (pt_not (pt_val (pe_call G hr (by rfl) mgg kp bd .nil pass0 (pa_cons (pv 2) (pa_cons pe_int (pa_cons (pe_glob (v := .int 12) rfl e2 ⟨_, rfl⟩) pa_nil))))))))) (pss_one ps_never) pss_nil))), ?_⟩
    refine ⟨_, rfl, _, _, _, _, true, rfl, .ty _, ty_tup hS, kit_ty (by decide +kernel), true, rfl, iteF ⟨_, rfl, a, _, rfl, .inr hS, rfl, false, rfl, iteF ?_⟩⟩
    exact ⟨_, rfl, a, _, rfl, hS, rfl, _, _, rfl, _, _, rfl, rfl, _, rfl, gap, 0, 4, rfl, g0, g1, true, rfl, iteF ⟨_, rfl, least, 0, 12, rfl, l0, l1, true, rfl, iteF k⟩⟩
end
end TG
namespace TG
open PySem L2 Gx
abbrev cl (z : Str) : List Nat := z.cps.toList
def restL (l : List Nat) : List Nat := if l.head? = some 45 then l.tail else l
def figB (z : Str) : Bool := decide (restL (cl z) ≠ []) && (restL (cl z)).all fun c => decide (48 ≤ c ∧ c ≤ 57)
theorem digit_lt : ∀ c < 127, Unicode.isDigit c = decide (48 ≤ c ∧ c ≤ 57) := by decide +kernel
theorem isdigit_eq {z : Str} (h : ∀ c ∈ cl z, c < 127) : Txt.isdigit z = (decide (cl z ≠ []) && (cl z).all fun c => decide (48 ≤ c ∧ c ≤ 57)) := by
  obtain ⟨⟨l⟩⟩ := z
  unfold Txt.isdigit
  simp only [Str.length, cl] at h ⊢
  congr 1
  · cases l <;> simp
  · rw [Bool.eq_iff_iff]
    simp only [List.all_eq_true, List.all_toArray]
    constructor
    · intro q c hc
      rw [← digit_lt c (h c hc)]; exact q c hc
    · intro q c hc
      rw [digit_lt c (h c hc)]; exact q c hc
theorem cut1 (z : Str) : cl (cutS z (some 1) none) = (cl z).tail := by
  obtain ⟨⟨l⟩⟩ := z
  unfold cutS
  simp only [cl, Str.length]
  rw [HT.sIx_none, show (some (1 : Int)) = some ((1 : Nat) : Int) from rfl, HT.sIx_nat]
  cases l with
  | nil => simp
  | cons a l => simp
theorem starts_dash (z : Str) : Txt.startswith z "-" = decide ((cl z).head? = some 45) := by
  obtain ⟨⟨l⟩⟩ := z
  have e : ("-" : Str) = ⟨#[45]⟩ := by decide +kernel
  rw [e]
  unfold Txt.startswith Builtin.Str.subAt
  cases l with
  | nil => simp [Str.length, cl]
  | cons a l =>
    simp only [Str.length, cl, List.head?_cons]
    by_cases h : a = 45
    · subst h
      simp
    · simp [h]
theorem str_ext {a b : Str} (h : cl a = cl b) : a = b := by
  obtain ⟨⟨a⟩⟩ := a
  obtain ⟨⟨b⟩⟩ := b
  have h : a = b := h
  rw [h]
section
variable {P : Program} {w : World} {K : PySem.W.Frag} {mg : Str → Option Value} {base : Heap} {cs : List (Addr × Addr)}
def spFig : Sp := fun vs H Q _ => ∃ z : Str, vs = [.str z] ∧ CellOk z ∧ Q (.bl (figB z)) H
theorem sc_isfig : FnScope ["cell"] ["cell"] (defScope s_is_figures) := ⟨rfl, rfl, rfl, by decide +kernel, rfl, by decide +kernel, by decide +kernel⟩
theorem ok_isfig {f : Addr} {fd : FuncData} (F : Fun K "is_figures" "is_figures" s_is_figures f fd) : FnOk P w K mg base CX0 1 f fd ["cell"] spFig := by
  refine F.ok sc_isfig (fun vs H Q E h => ?_) (fun cdv A outer s H vs Q E hr h => ?_)
  · obtain ⟨z, rfl, _⟩ := h
    rfl
  · obtain ⟨z, rfl, ⟨h1, h2⟩, k⟩ := h
    refine ⟨_, pss_cons (ps_if (pt_val (pe_m1 PySem.F.slot_str_startswith PySem.F.type_str_startswith mt_startswith (pv 0) pe_str)) (pss_one (ps_ret (pe_m0 PySem.F.slot_str_isdigit PySem.F.type_str_isdigit mt_isdigit (pe_slice sl_str (pv 0) (po_some pe_int) po_none)))) pss_nil)
      (pss_one (ps_ret (pe_m0 PySem.F.slot_str_isdigit PySem.F.type_str_isdigit mt_isdigit (pv 0)))), ?_⟩
    have lt : ∀ c ∈ cl z, c < 127 := fun c hc => by have := h2 c hc; unfold SgOk at this; omega
    refine ⟨_, rfl, ⟨_, rfl⟩, z, _, rfl, rfl, _, rfl, ?_⟩
    rw [starts_dash]
    by_cases hd : (cl z).head? = some 45
    · rw [decide_eq_true hd]
      refine iteT ⟨_, rfl, 1, rfl, z, rfl, line10 (by omega), ⟨_, rfl⟩, _, rfl, rfl, trivial, ?_⟩
      have e : Txt.isdigit (cutS z (some 1) none) = figB z := by
        rw [isdigit_eq (fun c hc => lt c (by rw [cut1] at hc; exact List.mem_of_mem_tail hc)), cut1]
        unfold figB restL
        rw [if_pos hd]
      rw [e]
      exact k
    · rw [decide_eq_false hd]
      refine iteF ⟨_, rfl, ⟨_, rfl⟩, _, rfl, rfl, trivial, ?_⟩
      have e : Txt.isdigit z = figB z := by
        rw [isdigit_eq lt]
        unfold figB restL
        rw [if_neg hd]
      rw [e]
      exact k
end
end TG
namespace TG
open PySem L2 Gx
def fillB (zs : List Str) : List Str := zs.filter fun z => decide (cl z ≠ [])
def rightB (zs : List Str) : Bool := decide (fillB zs ≠ []) && (fillB zs).all figB
theorem ne_empty (z : Str) : (!decide (V.str z = V.str "")) = decide (cl z ≠ []) := by
  have e : ("" : Str) = ⟨#[]⟩ := by decide +kernel
  by_cases h : cl z = []
  · have q : z = "" := str_ext (by rw [h, e])
    rw [decide_eq_true (show V.str z = V.str "" by rw [q]), decide_eq_false (fun n => n h)]
    rfl
  · rw [decide_eq_false (show ¬ V.str z = V.str "" from fun q => h (by injection q with q; rw [q, e])), decide_eq_true h]
    rfl
theorem filter_take {α : Type} {p : α → Bool} {xs : List α} {i : Nat} {x : α} (h : xs[i]? = some x) : (xs.take (i + 1)).filter p = (xs.take i).filter p ++ (if p x = true then [x] else []) := by
  rw [List.take_add_one, h, List.filter_append]
  congr 1
  by_cases hp : p x = true
  · rw [if_pos hp]
    simp [hp]
  · rw [if_neg hp]
    simp [hp]
section
variable {P : Program} {w : World} {K : PySem.W.Frag} {mg : Str → Option Value} {base : Heap} {cs : List (Addr × Addr)}
def spRight (K : PySem.W.Frag) (cs : List (Addr × Addr)) : Sp := fun vs H Q _ => ∃ (a : Addr) (zs : List Str), vs = [.ref a] ∧ Tabs cs H ∧ SqL K H a (sV zs) ∧ zs.length ≤ 1000 ∧ (∀ z ∈ zs, CellOk z) ∧ ∀ H', Ex cs H H' → Q (.bl (rightB zs)) H'
theorem sc_right : FnScope ["cells", "filled", "cell"] ["cells"] (defScope s_stands_right) := ⟨rfl, rfl, rfl, by decide +kernel, rfl, by decide +kernel, by decide +kernel⟩
theorem ok_right {f c Pt g : Addr} {fd fdg : FuncData} (T : Txt mg) (F : Fun K "stands_right" "stands_right" s_stands_right f fd) (hc : fd.code = .ref c) (TB : GxR.TabB base mg c Pt) (hm : (c, Pt) ∈ cs)
    (G : FnOk P w K mg base CX0 1 g fdg ["cell"] spFig) (kp : PySem.W.keepIn K (.ref g) = true) (bd : Binds K fdg ["cell"] []) (mgg : mg "is_figures" = some (.ref g)) : FnOk P w K mg base CX0 5 f fd ["cells"] (spRight K cs) := by
  refine fun_okT F hc sc_right (fun vs H Q E h => ?_) (fun A outer s H vs Q E hr h => ?_)
  · obtain ⟨a, zs, rfl, _⟩ := h
    rfl
  · obtain ⟨a, zs, rfl, hT, hS, hl, hz, k⟩ := h
    have nd := sc_right.nd
    refine ⟨_, pss_cons (ps_setLc (i := 1) (own := [("cell", 2)]) (g := gName 2) rfl nd rfl rfl (sw_true rfl rfl rfl (by decide +kernel)) (pi_list (pv 0)) (blkOk_by (own := [("cell", 2)]) (N := ["cells", "filled", "cell"]) (sc := defScope s_stands_right) (by decide +kernel))
        (fun _ _ _ _ _ => pg_name (i := 2) nd rfl (Or.inl rfl)) (fun _ _ _ _ _ => pts_one (pt_cmpR op_ne (pv 2) pe_str (nomark _))) (fun _ _ _ _ _ => pv 2))
      (pss_one (ps_ret (pe_and (pe_cmpR op_gt (pe_callB call_len_seq (by rfl) T.len PySem.boot_len (pa_cons (pv 1) pa_nil)) pe_int (nomark _))
        (pe_one (pe_allG (k := 1) (P := Pt) hr (by rfl) T.all TB rfl ⟨rfl, rfl, by decide +kernel, by decide +kernel, rfl, rfl⟩ (pi_list (pv 1)) (fun A' code s4 H4 fp hr' => pe_call G hr' (by rfl) mgg kp bd .nil pass0 (pa_cons (pv 0) pa_nil)) (fun _ => rfl)))))), ?_⟩
    have ls : (sV zs).length = zs.length := List.length_map ..
    refine ⟨_, rfl, a, rfl, ⟨_, hS⟩, fun D nD => lc_list (xs := sV zs) (fun i H' => Ex cs H H' ∧ H' D = some (.lst (sV (fillB (zs.take i))))) ⟨Ex.laid hT nD, upd_same⟩ (fun i H' _ p => p.1.sqL hS) ?_ ?_⟩
    · rintro i x H1 hx ⟨x1, hD⟩
      obtain ⟨z, hz1, rfl⟩ := get_map hx
      have hi : i < zs.length := (List.getElem?_eq_some_iff.mp hz1).1
      have hf := filter_take (p := fun z => decide (cl z ≠ [])) hz1
      refine ⟨rfl, _, rfl, rfl, _, rfl, ?_⟩
      rw [ne_empty]
      by_cases hc : cl z ≠ []
      · rw [decide_eq_true hc]
        rw [if_pos (decide_eq_true hc)] at hf
        refine iteT ⟨_, rfl, _, hD, ?_, ex_new hT x1 nD, ?_⟩
        · have q : (fillB (zs.take i)).length ≤ (zs.take i).length := List.length_filter_le ..
          have q2 : (sV (fillB (zs.take i))).length = (fillB (zs.take i)).length := List.length_map ..
          rw [List.length_take] at q
          have : (1000 : Nat) < sizeLine := by decide
          omega
        · rw [upd_same]
          unfold fillB
          rw [hf]
          simp [sV]
      · rw [decide_eq_false hc]
        rw [if_neg (by rw [decide_eq_false hc]; exact Bool.false_ne_true), List.append_nil] at hf
        refine iteF ⟨x1, ?_⟩
        unfold fillB
        rw [hf]
        exact hD
    · rintro H1 ⟨x1, hD⟩
      rw [ls, List.take_of_length_le (Nat.le_refl _)] at hD
      have hf : ∀ z ∈ fillB zs, CellOk z := fun z h => hz z (List.mem_filter.mp h).1
      refine ⟨_, rfl, D, _, rfl, .inl (SqL.of hD), _, 0, rfl, rfl, _, rfl, ?_⟩
      have lf : (sV (fillB zs)).length = (fillB zs).length := List.length_map ..
      by_cases hn : fillB zs = []
      · have e0 : decide (((sV (fillB zs)).length : Int) > 0) = false := decide_eq_false (by rw [hn]; simp)
        rw [e0]
        refine iteF ?_
        have e : rightB zs = false := by
          unfold rightB
          rw [decide_eq_false (fun q => q hn)]
          rfl
        rw [← e]
        exact k _ x1
      · have hp : 0 < (fillB zs).length := List.length_pos_iff.mpr hn
        have e0 : decide (((sV (fillB zs)).length : Int) > 0) = true := decide_eq_true (by omega)
        rw [e0]
        refine iteT ⟨_, rfl, D, rfl, ⟨_, SqL.of hD⟩, x1.tab _ hm, fun H2 hH2 => ?_⟩
        have x2 := Ex.tabbed x1.tab hm hH2
        have hR : rightB zs = (fillB zs).all figB := by
          unfold rightB
          rw [decide_eq_true hn, Bool.true_and]
        refine all_by (w := walk_list (a := D) (xs := sV (fillB zs))) (fun i => match (fillB zs)[i]? with | some z => figB z | none => true) (fun _ H' => Ex cs H H' ∧ H' D = some (.lst (sV (fillB zs)))) ⟨x1.trans x2, x2.ext _ _ hD fun ps q => by cases q⟩ (fun i H' _ x => SqL.of x.2) (fun i v H3 H4 hi x y Z hZ => ?_) (fun H3 x hall => ?_) (fun i H3 hi hff x => ?_)
        · obtain ⟨rfl, hv⟩ := y
          obtain ⟨z, hz2, rfl⟩ := get_map hv
          refine ⟨_, rfl, z, rfl, hf z (List.mem_of_getElem? hz2), ?_⟩
          have := hZ _ x
          rw [hz2] at this
          exact this
        · have e : rightB zs = true := by
            rw [hR, List.all_eq_true]
            intro z hzm
            obtain ⟨i, hi, e⟩ := List.getElem_of_mem hzm
            have q := hall i (by omega)
            rw [List.getElem?_eq_getElem hi, e] at q
            exact q
          rw [← e]
          exact k _ x.1
        · have e : rightB zs = false := by
            rw [hR, Bool.eq_false_iff]
            intro q
            rw [List.all_eq_true] at q
            have hi2 : i < (fillB zs).length := by omega
            rw [List.getElem?_eq_getElem hi2] at hff
            have := q _ (List.getElem_mem hi2)
            rw [show figB (fillB zs)[i] = false from hff] at this
            cases this
          rw [← e]
          exact k _ x.1
end
end TG
namespace TG
open PySem L2 Gx
def clB (rows : List (List Str)) (c i : Nat) : Bool := match rows[i]? with
  | some r => decide (c + 1 < r.length)
  | none => false
def hiB (rows : List (List Str)) (c i : Nat) : Nat := i + ((rows.drop i).takeWhile fun r => decide (c + 1 < r.length)).length
def stB (rows : List (List Str)) (c i : Nat) : Bool := clB rows c i && (decide (i = 0) || !clB rows c (i - 1))
def runsB (rows : List (List Str)) (c : Nat) : List (Nat × Nat) := ((List.range rows.length).filter (stB rows c)).map fun i => (i, hiB rows c i)
theorem hi_yes {rows : List (List Str)} {c i : Nat} (h : clB rows c i = true) : hiB rows c i = hiB rows c (i + 1) := by
  unfold clB at h
  cases e : rows[i]? with
  | none => rw [e] at h; cases h
  | some r =>
    rw [e] at h
    obtain ⟨hi, e2⟩ := List.getElem?_eq_some_iff.mp e
    have h' : decide (c + 1 < r.length) = true := h
    unfold hiB
    rw [List.drop_eq_getElem_cons hi, e2, List.takeWhile_cons, h', if_pos rfl, List.length_cons]
    omega
theorem hi_no {rows : List (List Str)} {c i : Nat} (h : clB rows c i = false) : hiB rows c i = i := by
  unfold clB at h
  unfold hiB
  cases e : rows[i]? with
  | none =>
    have hl : rows.length ≤ i := List.getElem?_eq_none_iff.mp e
    rw [List.drop_of_length_le hl]
    rfl
  | some r =>
    rw [e] at h
    obtain ⟨hi, e2⟩ := List.getElem?_eq_some_iff.mp e
    have h' : decide (c + 1 < r.length) = false := h
    rw [List.drop_eq_getElem_cons hi, e2, List.takeWhile_cons, h', if_neg Bool.false_ne_true]
    rfl
theorem hi_ge (rows : List (List Str)) (c i : Nat) : i ≤ hiB rows c i := Nat.le_add_right ..
theorem cl_lt {rows : List (List Str)} {c i : Nat} (h : clB rows c i = true) : i < rows.length := by
  unfold clB at h
  cases e : rows[i]? with
  | none => rw [e] at h; cases h
  | some r => exact (List.getElem?_eq_some_iff.mp e).1
theorem hi_le {rows : List (List Str)} {c i : Nat} (h : i ≤ rows.length) : hiB rows c i ≤ rows.length := by
  unfold hiB
  have := (List.takeWhile_prefix (l := rows.drop i) (fun r : List Str => decide (c + 1 < r.length))).length_le
  rw [List.length_drop] at this
  omega
theorem hi_in {rows : List (List Str)} {c : Nat} : ∀ (d i j : Nat), j = i + d → j < hiB rows c i → clB rows c j = true := by
  intro d
  induction d with
  | zero =>
    intro i j e h
    have e' : j = i := by omega
    subst e'
    cases hc : clB rows c j with
    | true => rfl
    | false =>
      rw [hi_no hc] at h
      omega
  | succ d ih =>
    intro i j e h
    cases hc : clB rows c i with
    | true =>
      rw [hi_yes hc] at h
      exact ih (i + 1) j (by omega) h
    | false =>
      rw [hi_no hc] at h
      omega
/-- one turn of the outer loop -/
theorem starts_turn {rows : List (List Str)} {c k : Nat} (hk : k = 0 ∨ clB rows c (k - 1) = false) :
    (List.range (hiB rows c k + 1)).filter (stB rows c) = (List.range k).filter (stB rows c) ++ (if clB rows c k = true then [k] else []) := by
  have key : ∀ d, k + d ≤ hiB rows c k → (List.range (k + d + 1)).filter (stB rows c) = (List.range k).filter (stB rows c) ++ (if clB rows c k = true then [k] else []) := by
    intro d
    induction d with
    | zero =>
      intro _
      rw [Nat.add_zero, List.range_succ, List.filter_append]
      congr 1
      have e : stB rows c k = clB rows c k := by
        unfold stB
        rcases hk with h | h
        · rw [decide_eq_true h]; simp
        · rw [h]; simp
      by_cases hc : clB rows c k = true
      · rw [if_pos hc]
        simp [e, hc]
      · rw [if_neg hc]
        simp [e, hc]
    | succ d ih =>
      intro hle
      rw [← Nat.add_assoc, List.range_succ, List.filter_append, ih (by omega)]
      have h1 : clB rows c (k + d) = true := hi_in d k (k + d) rfl (by omega)
      have e : stB rows c (k + d + 1) = false := by
        unfold stB
        rw [Nat.add_sub_cancel, h1, decide_eq_false (by omega)]
        simp
      simp [e]
  have h0 := hi_ge rows c k
  have := key (hiB rows c k - k) (by omega)
  rw [show k + (hiB rows c k - k) + 1 = hiB rows c k + 1 by omega] at this
  exact this
theorem starts_end {rows : List (List Str)} {c k : Nat} (h1 : rows.length ≤ k) : (List.range k).filter (stB rows c) = (List.range rows.length).filter (stB rows c) := by
  obtain ⟨d, rfl⟩ : ∃ d, k = rows.length + d := ⟨k - rows.length, by omega⟩
  clear h1
  induction d with
  | zero => rfl
  | succ d ih =>
    rw [← Nat.add_assoc, List.range_succ, List.filter_append, ih]
    have e : stB rows c (rows.length + d) = false := by
      unfold stB
      cases hc : clB rows c (rows.length + d) with
      | true => have := cl_lt hc; omega
      | false => rfl
    simp [e]
/-- pairs of numbers at ts -/
structure PairsAt (H : Hp) (ts : List Addr) (ps : List (Nat × Nat)) : Prop where
  len : ts.length = ps.length
  at_ : ∀ (i : Nat) (t : Addr) (p : Nat × Nat), ts[i]? = some t → ps[i]? = some p → H t = some (.tup [.int (p.1 : Nat), .int (p.2 : Nat)])
theorem PairsAt.snoc {H : Hp} {ts : List Addr} {ps : List (Nat × Nat)} {t : Addr} {p : Nat × Nat} (h : PairsAt H ts ps) (e : H t = some (.tup [.int (p.1 : Nat), .int (p.2 : Nat)])) : PairsAt H (ts ++ [t]) (ps ++ [p]) := by
  refine ⟨by rw [List.length_append, List.length_append, h.len]; rfl, fun i u q h1 h2 => ?_⟩
  by_cases hi : i < ts.length
  · rw [List.getElem?_append_left hi] at h1
    rw [List.getElem?_append_left (by rw [← h.len]; exact hi)] at h2
    exact h.at_ i u q h1 h2
  · have hl := (List.getElem?_eq_some_iff.mp h1).1
    rw [List.length_append, List.length_singleton] at hl
    have e1 : i = ts.length := by omega
    subst e1
    rw [List.getElem?_append_right (Nat.le_refl _), Nat.sub_self] at h1
    rw [h.len, List.getElem?_append_right (Nat.le_refl _), Nat.sub_self] at h2
    cases h1
    cases h2
    exact e
theorem PairsAt.keep {H H' : Hp} {ts : List Addr} {ps : List (Nat × Nat)} (h : PairsAt H ts ps) (k : ∀ b xs, H b = some (.tup xs) → H' b = some (.tup xs)) : PairsAt H' ts ps := ⟨h.len, fun i t p h1 h2 => k _ _ (h.at_ i t p h1 h2)⟩
section
variable {P : Program} {w : World} {K : PySem.W.Frag} {mg : Str → Option Value} {base : Heap} {cs : List (Addr × Addr)}
def spClosed (K : PySem.W.Frag) : Sp := fun vs H Q _ => ∃ (p : Addr) (r : List Str) (c : Nat), vs = [.ref p, .int (c : Nat)] ∧ SqT K H p (sV r) ∧ Q (.bl (decide (c + 1 < r.length))) H
theorem sc_closed : FnScope ["row", "column"] ["row", "column"] (defScope s_is_closed) := ⟨rfl, rfl, rfl, by decide +kernel, rfl, by decide +kernel, by decide +kernel⟩
theorem ok_closed {f : Addr} {fd : FuncData} (T : Txt mg) (F : Fun K "is_closed" "is_closed" s_is_closed f fd) : FnOk P w K mg base CX0 1 f fd ["row", "column"] (spClosed K) := by
  refine F.ok sc_closed (fun vs H Q E h => ?_) (fun cdv A outer s H vs Q E hr h => ?_)
  · obtain ⟨p, r, c, rfl, _⟩ := h
    rfl
  · obtain ⟨p, r, c, rfl, hS, k⟩ := h
    refine ⟨_, pss_one (ps_ret (pe_cmpR op_lt (pe_op op_add (pv 1) pe_int) (pe_callB call_len_seq (by rfl) T.len PySem.boot_len (pa_cons (pv 0) pa_nil)) (nomark _))), ?_⟩
    refine ⟨_, rfl, c, 1, rfl, rfl, _, rfl, p, _, rfl, .inr hS, _, _, rfl, rfl, ?_⟩
    have ls : (sV r).length = r.length := List.length_map ..
    have e : decide ((c : Int) + 1 < ((sV r).length : Int)) = decide (c + 1 < r.length) := by
      rw [ls]
      by_cases h : c + 1 < r.length
      · rw [decide_eq_true h, decide_eq_true (by omega)]
      · rw [decide_eq_false h, decide_eq_false (by omega)]
    show Q (.bl (decide ((c : Int) + 1 < ((sV r).length : Int)))) H
    rw [e]
    exact k
def spRuns (K : PySem.W.Frag) (cs : List (Addr × Addr)) : Sp := fun vs H Q _ => ∃ (a : Addr) (as : List Addr) (rows : List (List Str)) (c : Nat), vs = [.ref a, .int (c : Nat)] ∧ Tabs cs H ∧ PageAt K H a as rows ∧ rows.length ≤ 30 ∧
  ∀ (r : Addr) (ts : List Addr) (H' : Hp), Ex cs H H' → H r = none → H' r = some (.lst (ts.map V.ref)) → PairsAt H' ts (runsB rows c) → Q (.ref r) H'
theorem sc_runs : FnScope ["page", "column", "runs", "begin", "end"] ["page", "column"] (defScope s_closed_runs) := ⟨rfl, rfl, rfl, by decide +kernel, rfl, by decide +kernel, by decide +kernel⟩
theorem ok_runs {f g : Addr} {fd fdg : FuncData} (T : Txt mg) (F : Fun K "closed_runs" "closed_runs" s_closed_runs f fd)
    (G : FnOk P w K mg base CX0 1 g fdg ["row", "column"] (spClosed K)) (kp : PySem.W.keepIn K (.ref g) = true) (bd : Binds K fdg ["row", "column"] []) (mgg : mg "is_closed" = some (.ref g)) : FnOk P w K mg base CX0 2 f fd ["page", "column"] (spRuns K cs) := by
  refine F.ok sc_runs (fun vs H Q E h => ?_) (fun cdv A outer s H vs Q E hr h => ?_)
  · obtain ⟨a, as, rows, c, rfl, _⟩ := h
    rfl
  · obtain ⟨a, as, rows, c, rfl, hT, hP, hn, k⟩ := h
    have nd := sc_runs.nd
    refine ⟨_, pss_cons (ps_set (i := 2) nd rfl (.inl rfl) (pe_lst pa_nil)) (pss_cons (ps_set (i := 3) nd rfl (.inl rfl) pe_int)
      (pss_cons (ps_while PassesOwn.never (pt_cmpR op_lt (pv 3) (pe_callB call_len_seq (by rfl) T.len PySem.boot_len (pa_cons (pv 0) pa_nil)) (nomark _))
        (pss_cons (ps_set (i := 4) nd rfl (.inl rfl) (pv 3))
        (pss_cons (ps_while PassesOwn.never (PW.pt (pw_and (pt_cmpR op_lt (pv 4) (pe_callB call_len_seq (by rfl) T.len PySem.boot_len (pa_cons (pv 0) pa_nil)) (nomark _)) (pw_and1 (pt_val (pe_call G hr (by rfl) mgg kp bd .nil pass0 (pa_cons (pe_ix ix_list (pv 0) (pv 4) (fun _ _ => rfl)) (pa_cons (pv 1) pa_nil)))))))
            (pss_one (ps_aug (i := 4) nd rfl (.inl rfl) pe_int ip_add)))
        (pss_cons (ps_if (pt_cmpR op_gt (pv 4) (pv 3) (nomark _)) (pss_one (ps_expr (pe_bm PySem.F.plainAttrs_list PySem.F.slot_list_append PySem.F.type_list_append mt_append (pv 2) (pa_cons (pe_tup (pa_cons (pv 3) (pa_cons (pv 4) pa_nil))) pa_nil)))) pss_nil)
        (pss_one (ps_set (i := 3) nd rfl (.inl rfl) (pe_op op_add (pv 4) pe_int)))))))
      (pss_one (ps_ret (pv 2))))), ?_⟩
    refine ⟨small0, fun p np => ?_⟩
    -- the outer loop
    let runsAt : Nat → List (Nat × Nat) := fun k => ((List.range k).filter (stB rows c)).map fun i => (i, hiB rows c i)
    let Out : Nat → L2.St → Hp → Prop := fun m σ H1 => ∃ (b : Nat) (ts : List Addr) (e : Option V), σ = [some (.ref a), some (.int (c : Nat)), some (.ref p), some (.int (b : Nat)), e] ∧ m = rows.length + 1 - b ∧ b ≤ rows.length + 1 ∧ (b = 0 ∨ clB rows c (b - 1) = false) ∧ Ex cs H H1 ∧ H1 p = some (.lst (ts.map V.ref)) ∧ PairsAt H1 ts (runsAt b)
    refine ⟨Out, ⟨_, 0, [], none, rfl, rfl, Nat.zero_le _, .inl rfl, Ex.laid hT np, upd_same, rfl, fun i t q h => by simp at h⟩, ?_⟩
    rintro m σ H1 ⟨b, ts, e, rfl, rfl, hb, hst, x1, hp1, pr⟩
    have hl : (as.map V.ref).length = rows.length := by rw [List.length_map]; exact hP.len
    refine ⟨_, rfl, _, rfl, a, _, rfl, .inl (x1.sqL hP.lst), _, _, rfl, rfl, _, rfl, ?_⟩
    by_cases hlt : b < rows.length
    · rw [decide_eq_true (show (b : Int) < ((as.map V.ref).length : Int) by omega)]
      refine iteT ⟨Out (rows.length + 1 - (hiB rows c b + 1)), fun σ' H' o => ⟨_, by have := hi_ge rows c b; omega, o⟩, ?_⟩
      refine ⟨_, rfl, ?_⟩
      let Inn : Nat → L2.St → Hp → Prop := fun m σ H2 => ∃ e : Nat, σ = [some (.ref a), some (.int (c : Nat)), some (.ref p), some (.int (b : Nat)), some (.int (e : Nat))] ∧ m = rows.length - e ∧ b ≤ e ∧ e ≤ rows.length ∧ hiB rows c e = hiB rows c b ∧ H2 = H1
      refine ⟨Inn, ⟨_, b, rfl, rfl, Nat.le_refl _, Nat.le_of_lt hlt, rfl, rfl⟩, ?_⟩
      rintro m2 σ2 H2 ⟨e2, rfl, rfl, h1, h2, h3, rfl⟩
      refine ⟨_, rfl, _, rfl, a, _, rfl, .inl (x1.sqL hP.lst), _, _, rfl, rfl, _, rfl, ?_⟩
      have hsz : (ts.map V.ref).length < sizeLine := by
        have q1 : (runsAt b).length ≤ (List.range b).length := by
          show (((List.range b).filter (stB rows c)).map _).length ≤ _
          rw [List.length_map]
          exact List.length_filter_le ..
        rw [List.length_range] at q1
        rw [List.length_map, pr.len]
        have : (1000 : Nat) < sizeLine := by decide
        omega
      cases hcl : clB rows c e2 with
      | true =>
        have hlt2 := cl_lt hcl
        obtain ⟨q, hq⟩ := getP (xs := as) (i := e2) (by rw [hP.len]; exact hlt2)
        obtain ⟨r, hr2⟩ := getP hlt2
        have hcr : decide (c + 1 < r.length) = true := by
          unfold clB at hcl
          rw [hr2] at hcl
          exact hcl
        rw [decide_eq_true (show (e2 : Int) < ((as.map V.ref).length : Int) by omega)]
        refine iteT ⟨_, rfl, _, rfl, a, _, e2, .ref q, rfl, rfl, x1.sqL hP.lst, atI_nat (by rw [List.getElem?_map, hq]; rfl), _, rfl, q, r, c, rfl, x1.sqT (hP.row e2 q r hq hr2), true, by rw [hcr], iteT ?_⟩
        refine ⟨Inn (rows.length - (e2 + 1)), fun σ' H' o => ⟨_, by omega, o⟩, _, rfl, e2, 1, rfl, rfl, e2 + 1, rfl, rfl, by omega, by omega, by rw [← hi_yes hcl]; exact h3, rfl⟩
      | false =>
        have hnc := hcl
        have he : hiB rows c b = e2 := h3.symm.trans (hi_no hnc)
        by_cases hlt2 : e2 < rows.length
        · obtain ⟨q, hq⟩ := getP (xs := as) (i := e2) (by rw [hP.len]; exact hlt2)
          obtain ⟨r, hr2⟩ := getP hlt2
          have hcr : decide (c + 1 < r.length) = false := by
            unfold clB at hcl
            rw [hr2] at hcl
            exact hcl
          rw [decide_eq_true (show (e2 : Int) < ((as.map V.ref).length : Int) by omega)]
          refine iteT ⟨_, rfl, _, rfl, a, _, e2, .ref q, rfl, rfl, x1.sqL hP.lst, atI_nat (by rw [List.getElem?_map, hq]; rfl), _, rfl, q, r, c, rfl, x1.sqT (hP.row e2 q r hq hr2), false, by rw [hcr], iteF ?_⟩
          refine ⟨_, rfl, _, rfl, _, _, rfl, rfl, _, rfl, ?_⟩
          by_cases hgt : b < e2
          · rw [decide_eq_true (show (b : Int) < (e2 : Int) by omega)]
            refine iteT ⟨_, rfl, .inl ⟨rfl, _, SqL.of hp1⟩, _, rfl, _, rfl, (by show 2 ≤ sizeLine; decide), fun t nt => ⟨p, ts.map V.ref, .ref t, rfl, rfl, (by rw [upd_ne (ne_of_none hp1 nt)]; exact hp1), hsz, ?_⟩⟩
            refine ⟨_, rfl, e2, 1, rfl, rfl, ?_⟩
            have ntp : t ≠ p := fun z => by rw [z, hp1] at nt; cases nt
            have eR : runsAt (e2 + 1) = runsAt b ++ [(b, e2)] := by
              show ((List.range (e2 + 1)).filter (stB rows c)).map _ = _
              rw [← he, starts_turn hst, if_pos (hi_in 0 b b rfl (by omega)), List.map_append]
              rfl
            refine ⟨e2 + 1, ts ++ [t], some (.int (e2 : Nat)), rfl, by omega, by omega, .inr (by rw [Nat.add_sub_cancel]; exact hnc), ex_new hT (x1.trans (Ex.laid x1.tab nt)) np, ?_, ?_⟩
            · rw [upd_same, List.map_append]; rfl
            · rw [eR]
              refine (pr.keep fun q xs h => ?_).snoc ?_
              · rw [upd_ne (fun z => by rw [z, hp1] at h; cases h), upd_ne (ne_of_none h nt)]; exact h
              · rw [upd_ne ntp, upd_same]
          · rw [decide_eq_false (show ¬ (b : Int) < (e2 : Int) by omega)]
            refine iteF ⟨_, rfl, e2, 1, rfl, rfl, ?_⟩
            have eR : runsAt (e2 + 1) = runsAt b := by
              show ((List.range (e2 + 1)).filter (stB rows c)).map _ = _
              rw [← he, starts_turn hst, if_neg (fun z => by rw [hi_yes z] at he; have := hi_ge rows c (b + 1); omega), List.append_nil]
            refine ⟨e2 + 1, ts, some (.int (e2 : Nat)), rfl, by omega, by omega, .inr (by rw [Nat.add_sub_cancel]; exact hnc), x1, hp1, ?_⟩
            rw [eR]
            exact pr

        · rw [decide_eq_false (show ¬ (e2 : Int) < ((as.map V.ref).length : Int) by omega)]
          refine iteF (iteF ?_)
          refine ⟨_, rfl, _, rfl, _, _, rfl, rfl, _, rfl, ?_⟩
          by_cases hgt : b < e2
          · rw [decide_eq_true (show (b : Int) < (e2 : Int) by omega)]
            refine iteT ⟨_, rfl, .inl ⟨rfl, _, SqL.of hp1⟩, _, rfl, _, rfl, (by show 2 ≤ sizeLine; decide), fun t nt => ⟨p, ts.map V.ref, .ref t, rfl, rfl, (by rw [upd_ne (ne_of_none hp1 nt)]; exact hp1), hsz, ?_⟩⟩
            refine ⟨_, rfl, e2, 1, rfl, rfl, ?_⟩
            have ntp : t ≠ p := fun z => by rw [z, hp1] at nt; cases nt
            have eR : runsAt (e2 + 1) = runsAt b ++ [(b, e2)] := by
              show ((List.range (e2 + 1)).filter (stB rows c)).map _ = _
              rw [← he, starts_turn hst, if_pos (hi_in 0 b b rfl (by omega)), List.map_append]
              rfl
            refine ⟨e2 + 1, ts ++ [t], some (.int (e2 : Nat)), rfl, by omega, by omega, .inr (by rw [Nat.add_sub_cancel]; exact hnc), ex_new hT (x1.trans (Ex.laid x1.tab nt)) np, ?_, ?_⟩
            · rw [upd_same, List.map_append]; rfl
            · rw [eR]
              refine (pr.keep fun q xs h => ?_).snoc ?_
              · rw [upd_ne (fun z => by rw [z, hp1] at h; cases h), upd_ne (ne_of_none h nt)]; exact h
              · rw [upd_ne ntp, upd_same]
          · rw [decide_eq_false (show ¬ (b : Int) < (e2 : Int) by omega)]
            refine iteF ⟨_, rfl, e2, 1, rfl, rfl, ?_⟩
            have eR : runsAt (e2 + 1) = runsAt b := by
              show ((List.range (e2 + 1)).filter (stB rows c)).map _ = _
              rw [← he, starts_turn hst, if_neg (fun z => by rw [hi_yes z] at he; have := hi_ge rows c (b + 1); omega), List.append_nil]
            refine ⟨e2 + 1, ts, some (.int (e2 : Nat)), rfl, by omega, by omega, .inr (by rw [Nat.add_sub_cancel]; exact hnc), x1, hp1, ?_⟩
            rw [eR]
            exact pr
    · rw [decide_eq_false (show ¬ (b : Int) < ((as.map V.ref).length : Int) by omega)]
      refine iteF ⟨_, rfl, ?_⟩
      refine k p ts H1 x1 np hp1 ?_
      have e1 : runsAt b = runsB rows c := by
        show ((List.range b).filter (stB rows c)).map _ = _
        rw [starts_end (by omega)]
        rfl
      rw [← e1]
      exact pr
end
end TG
namespace TG
open PySem L2 Gx
abbrev nilS : Str := ⟨#[]⟩
def cellsB (rows : List (List Str)) (c b e : Nat) : List Str := ((rows.drop b).take (e - b)).map fun r => r.getD c nilS
def longB : List Str → Nat
  | [] => 0
  | z :: zs => max z.length (longB zs)
def widthB (zs : List Str) (gap least : Int) : Int := if least > (longB zs : Int) + gap then least else (longB zs : Int) + gap
def holdB (zs : List Str) (b : Nat) (gap least : Int) : List Int := if least < (longB zs : Int) + gap then ((List.range zs.length).filter fun i => decide ((zs.getD i nilS).length = longB zs)).map fun i => ((b + i : Nat) : Int) else []
theorem long_ge : ∀ {zs : List Str} {z : Str}, z ∈ zs → z.length ≤ longB zs
  | y :: zs, z, h => by
    rcases List.mem_cons.mp h with e | e
    · subst e; exact Nat.le_max_left _ _
    · exact Nat.le_trans (long_ge e) (Nat.le_max_right _ _)
theorem long_in : ∀ {zs : List Str}, zs ≠ [] → ∃ z ∈ zs, z.length = longB zs
  | [z], _ => ⟨z, List.mem_singleton.mpr rfl, by simp [longB]⟩
  | z :: y :: zs, _ => by
    obtain ⟨x, hx, e⟩ := long_in (zs := y :: zs) (by simp)
    by_cases h : longB (y :: zs) ≤ z.length
    · exact ⟨z, List.mem_cons_self, (Nat.max_eq_left h).symm⟩
    · exact ⟨x, List.mem_cons_of_mem _ hx, by rw [e]; exact (Nat.max_eq_right (by omega)).symm⟩
theorem cells_len {rows : List (List Str)} {c b e : Nat} (h : e ≤ rows.length) : (cellsB rows c b e).length = e - b := by
  unfold cellsB
  rw [List.length_map, List.length_take, List.length_drop]
  omega
theorem cells_get {rows : List (List Str)} {c b e i : Nat} (h : b + i < e) {r : List Str} (hr : rows[b + i]? = some r) : (cellsB rows c b e)[i]? = some (r.getD c nilS) := by
  unfold cellsB
  rw [List.getElem?_map, List.getElem?_take_of_lt (by omega), List.getElem?_drop, hr]
  rfl
theorem cells_mem {rows : List (List Str)} {c b e : Nat} (hO : PgOk rows) (hc : ∀ i, b ≤ i → i < e → clB rows c i = true) (he : e ≤ rows.length) {z : Str} (h : z ∈ cellsB rows c b e) : CellOk z := by
  obtain ⟨i, hi, e1⟩ := List.getElem_of_mem h
  rw [cells_len he] at hi
  obtain ⟨r, hr⟩ := getP (xs := rows) (i := b + i) (by omega)
  have q := cells_get (c := c) (b := b) (e := e) (i := i) (by omega) hr
  have hcl := hc (b + i) (by omega) (by omega)
  unfold clB at hcl
  rw [hr] at hcl
  have hcr : c + 1 < r.length := of_decide_eq_true hcl
  rw [List.getElem?_eq_getElem (by rw [cells_len he]; exact hi), e1] at q
  cases q
  have := (hO.rows r (List.mem_of_getElem? hr)).cells (r[c]'(by omega)) (List.getElem_mem _)
  rw [List.getD_eq_getElem?_getD, List.getElem?_eq_getElem (by omega)]
  exact this
theorem cut_mid {xs : List V} {b e : Nat} (h1 : b ≤ e) (h2 : e ≤ xs.length) : cutV xs (some (b : Int)) (some (e : Int)) = (xs.drop b).take (e - b) := by
  unfold cutV
  rw [HT.sIx_nat, HT.sIx_nat, Nat.min_eq_left h2, Nat.min_eq_left (Nat.le_trans h1 h2)]
section
variable {P : Program} {w : World} {K : PySem.W.Frag} {mg : Str → Option Value} {base : Heap} {cs : List (Addr × Addr)}
/-- the told tuple at t, its holders at h -/
def DescAt (H : Hp) (t h : Addr) (c b e : Nat) (zs : List Str) (gap least : Int) : Prop :=
  H t = some (.tup [.int (c : Nat), .int (b : Nat), .int (e : Nat), .int (widthB zs gap least), .bl (rightB zs), .ref h]) ∧ H h = some (.lst ((holdB zs b gap least).map V.int))
def spDesc (K : PySem.W.Frag) (cs : List (Addr × Addr)) : Sp := fun vs H Q _ => ∃ (a st : Addr) (as : List Addr) (rows : List (List Str)) (gap least : Int) (c b e : Nat), vs = [.ref a, .ref st, .int (c : Nat), .int (b : Nat), .int (e : Nat)] ∧ Tabs cs H ∧ PageAt K H a as rows ∧ PgOk rows ∧ StyleAt K H st gap least ∧
  b < e ∧ e ≤ rows.length ∧ (∀ i, b ≤ i → i < e → clB rows c i = true) ∧ ∀ (t h : Addr) (H' : Hp), Ex cs H H' → H t = none → H h = none → DescAt H' t h c b e (cellsB rows c b e) gap least → Q (.ref t) H'
theorem sc_desc : FnScope ["page", "style", "column", "begin", "end", "gap", "least", "cells", "longest", "holders", "row", "at", "cell"] ["page", "style", "column", "begin", "end"] (defScope s_described) := ⟨rfl, rfl, rfl, by decide +kernel, rfl, by decide +kernel, by decide +kernel⟩
theorem ok_desc {f c Pt g : Addr} {fd fdg : FuncData} (T : Txt mg) (F : Fun K "described" "described" s_described f fd) (hc : fd.code = .ref c) (TB : GxR.TabB base mg c Pt) (hm : (c, Pt) ∈ cs)
    (G : FnOk P w K mg base CX0 5 g fdg ["cells"] (spRight K cs)) (kp : PySem.W.keepIn K (.ref g) = true) (bd : Binds K fdg ["cells"] []) (mgg : mg "stands_right" = some (.ref g)) : FnOk P w K mg base CX0 6 f fd ["page", "style", "column", "begin", "end"] (spDesc K cs) := by
  refine fun_okT F hc sc_desc (fun vs H Q E h => ?_) (fun A outer s H vs Q E hr h => ?_)
  · obtain ⟨a, st, as, rows, gap, least, cc, b, e, rfl, _⟩ := h
    rfl
  · obtain ⟨a, st, as, rows, gap, least, cc, b, e, rfl, hT, hP, hO, ⟨hS, _⟩, hbe, hen, hcl, k⟩ := h
    have nd := sc_desc.nd
    refine ⟨_, pss_cons (ps_asg (pv 1) (pg_tup rfl (pgs_cons (pg_name (i := 5) nd rfl (.inl rfl)) (pgs_cons (pg_name (i := 6) nd rfl (.inl rfl)) pgs_nil))))
      (pss_cons (ps_setLc (i := 7) (own := [("row", 10)]) (g := gName 10) rfl nd rfl rfl (sw_true rfl rfl rfl (by decide +kernel)) (pi_list (pe_slice sl_list (pv 0) (po_some (pv 3)) (po_some (pv 4)))) (blkOk_by (own := [("row", 10)]) (N := ["page", "style", "column", "begin", "end", "gap", "least", "cells", "longest", "holders", "row", "at", "cell"]) (sc := defScope s_described) (by decide +kernel))
        (fun _ _ _ _ _ => pg_name (i := 10) nd rfl (Or.inl rfl)) (fun _ _ _ _ _ => pts_nil) (fun _ _ _ _ _ => pe_ix (r := rIxT K) ix_tup (pv 10) (pv 2) (fun _ _ => rfl)))
      (pss_cons (ps_set (i := 8) nd rfl (.inr rfl) (pe_maxG (k := 0) (P := Pt) (hr.mono (by decide)) (by rfl) T.max TB rfl ⟨rfl, rfl, by decide +kernel, by decide +kernel, rfl, rfl⟩ (pi_list (pv 7)) (fun A' code s4 H4 fp hr' => pe_callB call_len_str (by rfl) T.len PySem.boot_len (pa_cons (pv 0) pa_nil)) (fun _ => rfl)))
      (pss_cons (ps_set (i := 9) nd rfl (.inl rfl) (pe_lst pa_nil))
      (pss_cons (ps_if (pt_cmpR op_gt (pe_op op_add (pv 8) (pv 5)) (pv 6) (nomark _))
        (pss_one (ps_setLc (i := 9) (own := [("at", 11), ("cell", 12)]) (g := gTup K 2 (gCons (gName 11) (gCons (gName 12) gNil))) rfl nd rfl rfl (sw_true rfl rfl rfl (by decide +kernel)) (pi_enum (by rfl) T.enum (pa_cons (pv 7) pa_nil)) (blkOk_by (own := [("at", 11), ("cell", 12)]) (N := ["page", "style", "column", "begin", "end", "gap", "least", "cells", "longest", "holders", "row", "at", "cell"]) (sc := defScope s_described) (by decide +kernel))
          (fun _ _ _ _ _ => pg_tup rfl (pgs_cons (pg_name (i := 11) nd rfl (.inl rfl) (.inr rfl)) (pgs_cons (pg_name (i := 12) nd rfl (.inl rfl) (.inr rfl)) pgs_nil))) (fun _ _ _ _ _ => pts_one (pt_cmpR op_eq (pe_callB call_len_str (by rfl) T.len PySem.boot_len (pa_cons (pv 12) pa_nil)) (pv 8) (nomark _))) (fun _ _ _ _ _ => pe_op op_add (pv 3) (pv 11)))) pss_nil)
      (pss_one (ps_ret (pe_tup (pa_cons (pv 2) (pa_cons (pv 3) (pa_cons (pv 4) (pa_cons (pe_callB (call_max2 rfl) (by rfl) T.max (by decide +kernel) (pa_cons (pe_op op_add (pv 8) (pv 5)) (pa_cons (pv 6) pa_nil))) (pa_cons (pe_call G hr (by rfl) mgg kp bd .nil pass0 (pa_cons (pv 7) pa_nil)) (pa_cons (pv 9) pa_nil))))))))))))), ?_⟩
    have hL : cutV (as.map V.ref) (some (b : Int)) (some (e : Int)) = ((as.drop b).take (e - b)).map V.ref := by
      rw [cut_mid (by omega) (by rw [List.length_map, hP.len]; exact hen), ← List.map_drop, ← List.map_take]
    have lc := cells_len (c := cc) (b := b) hen
    have ll := hO.len
    have lsz : (1000 : Nat) < sizeLine := by decide
    have lsV : (sV (cellsB rows cc b e)).length = e - b := by rw [List.length_map, lc]
    have sll : ((as.drop b).take (e - b)).length = e - b := by rw [List.length_take, List.length_drop, hP.len]; omega
    refine ⟨_, rfl, st, _, rfl, hS, rfl, _, _, rfl, _, _, rfl, rfl, ?_⟩
    refine ⟨_, rfl, _, rfl, (b : Int), rfl, _, rfl, (e : Int), rfl, a, _, rfl, hP.lst, fun p np => ?_⟩
    rw [hL]
    refine ⟨p, rfl, ⟨_, SqL.of upd_same⟩, fun D nD => lc_list (xs := ((as.drop b).take (e - b)).map V.ref) (fun i H' => Ex cs H H' ∧ H' p = some (.lst (((as.drop b).take (e - b)).map V.ref)) ∧ H' D = some (.lst (sV ((cellsB rows cc b e).take i)))) ?_ (fun i H' _ x => SqL.of x.2.1) ?_ ?_⟩
    · have x1 := Ex.laid (o := .lst (((as.drop b).take (e - b)).map V.ref)) hT np
      exact ⟨x1.trans (Ex.laid x1.tab nD), by rw [upd_ne (fun z => by rw [← z, upd_same] at nD; cases nD), upd_same], upd_same⟩
    · rintro i v H1 hv ⟨x1, hp, hD⟩
      obtain ⟨q, hq, rfl⟩ := get_map hv
      have hi : i < e - b := by have := (List.getElem?_eq_some_iff.mp hq).1; omega
      rw [List.getElem?_take_of_lt hi, List.getElem?_drop] at hq
      obtain ⟨r, hr2⟩ := getP (xs := rows) (i := b + i) (by omega)
      have hc1 := hcl (b + i) (by omega) (by omega)
      unfold clB at hc1
      rw [hr2] at hc1
      have hcr : cc + 1 < r.length := of_decide_eq_true hc1
      have hz : (sV r)[cc]? = some (V.str (r.getD cc nilS)) := by
        rw [List.getElem?_map, List.getD_eq_getElem?_getD, List.getElem?_eq_getElem (by omega)]; rfl
      have nD0 : H D = none := (Ex.laid (o := .lst (((as.drop b).take (e - b)).map V.ref)) hT np).old _ nD
      refine ⟨rfl, _, rfl, _, rfl, q, sV r, cc, _, rfl, rfl, x1.sqT (hP.row _ q r hq hr2), atI_nat hz, _, hD, ?_, ex_new hT x1 nD0, ?_, ?_⟩
      · rw [List.length_map, List.length_take]; omega
      · rw [upd_ne (fun z => by rw [← z, upd_same] at nD; cases nD)]; exact hp
      · rw [upd_same, List.take_add_one, cells_get (by omega) hr2]
        simp [sV]
    · rintro H1 ⟨x1, hp, hD⟩
      rw [List.length_map, sll, ← lc, List.take_of_length_le (Nat.le_refl _)] at hD
      -- longest
      refine ⟨_, rfl, D, rfl, ⟨_, SqL.of hD⟩, x1.tab _ hm, fun H2 hH2 => ?_⟩
      have x2 := x1.trans (Ex.tabbed x1.tab hm hH2)
      have hD2 := (Ex.tabbed x1.tab hm hH2).lst hD
      refine max_by (w := walk_list (a := D) (xs := sV (cellsB rows cc b e))) (fun i => ((((cellsB rows cc b e).getD i nilS).length : Nat) : Int)) (by omega) (fun _ H' => Ex cs H H' ∧ H' D = some (.lst (sV (cellsB rows cc b e)))) ⟨x2, hD2⟩ (fun i H' _ x => SqL.of x.2) (fun i v H3 H4 hi x y Z hZ => ?_) (fun m H3 x3 hex hall => ?_)
      · obtain ⟨rfl, hv⟩ := y
        obtain ⟨z, hz, rfl⟩ := get_map hv
        refine ⟨_, rfl, z, rfl, line10 (by have := (cells_mem hO hcl hen (List.mem_of_getElem? hz)).len; omega), ?_⟩
        have q := hZ _ x
        have ez : (cellsB rows cc b e).getD i nilS = z := by rw [List.getD_eq_getElem?_getD, hz]; rfl
        rw [ez] at q
        exact q
      · obtain ⟨x3, hD3⟩ := x3
        have em : m = ((longB (cellsB rows cc b e) : Nat) : Int) := by
          obtain ⟨i, hi, e1⟩ := hex
          obtain ⟨z, hz, e2⟩ := long_in (zs := cellsB rows cc b e) (fun q => by rw [q] at lc; simp at lc; omega)
          obtain ⟨j, hj, e3⟩ := List.getElem_of_mem hz
          have h1 := hall j (by omega)
          rw [List.getD_eq_getElem?_getD, List.getElem?_eq_getElem hj, e3] at h1
          have h1' : ((z.length : Nat) : Int) ≤ m := h1
          rw [List.getD_eq_getElem?_getD, List.getElem?_eq_getElem (by omega)] at e1
          have h2 := long_ge (List.getElem_mem (l := cellsB rows cc b e) (show i < _ by omega))
          have e1' : (((cellsB rows cc b e)[i]'(by omega)).length : Int) = m := e1
          omega
        subst em
        refine ⟨small0, fun h0 nh0 => ?_⟩
        have x4 := x3.trans (Ex.laid (o := .lst []) x3.tab nh0)
        have hD4 := (Ex.laid (o := .lst []) x3.tab nh0).lst hD3
        refine ⟨_, rfl, _, rfl, _, _, rfl, rfl, _, rfl, _, _, rfl, rfl, _, rfl, ?_⟩
        by_cases hg : least < ((longB (cellsB rows cc b e) : Nat) : Int) + gap
        · rw [decide_eq_true hg]
          refine iteT ⟨_, rfl, D, _, rfl, SqL.of hD4, fun D2 nD2 => lc_it (walk_enum (xs := sV (cellsB rows cc b e))) (fun i H' => Ex cs H H' ∧ H' D = some (.lst (sV (cellsB rows cc b e))) ∧ H' D2 = some (.lst (((List.range i).filter fun j => decide (((cellsB rows cc b e).getD j nilS).length = longB (cellsB rows cc b e))).map fun j => V.int ((b + j : Nat) : Int)))) ?_ (fun i H' _ x => SqL.of x.2.1) ?_ ?_⟩
          · exact ⟨x4.trans (Ex.laid x4.tab nD2), (Ex.laid x4.tab nD2).lst hD4, upd_same⟩
          · rintro i v H5 H6 hi ⟨x5, hD5, hh⟩ ⟨Tp, v1, u, rfl, hn, rfl, hv, hu⟩
            cases hv
            obtain ⟨z, hz, rfl⟩ := get_map hu
            have xl := Ex.laid (o := .tup [.int (i : Nat), .str z]) x5.tab hn
            have ez : (cellsB rows cc b e).getD i nilS = z := by rw [List.getD_eq_getElem?_getD, hz]; rfl
            have zl := (cells_mem hO hcl hen (List.mem_of_getElem? hz)).len
            refine ⟨Tp, _, rfl, .inl (.inl upd_same), rfl, _, _, rfl, _, _, rfl, rfl, rfl, _, rfl, z, rfl, line10 (by omega), _, rfl, rfl, _, rfl, ?_⟩
            have nD20 := x4.old _ nD2
            by_cases hzl : z.length = longB (cellsB rows cc b e)
            · rw [decide_eq_true (show V.int ((z.length : Nat) : Int) = V.int ((longB (cellsB rows cc b e) : Nat) : Int) by rw [hzl])]
              refine iteT ⟨_, rfl, _, rfl, _, _, rfl, rfl, _, xl.lst hh, ?_, ex_new hT (x5.trans xl) nD20, ?_, ?_⟩
              · have q : ((List.range i).filter fun j => decide (((cellsB rows cc b e).getD j nilS).length = longB (cellsB rows cc b e))).length ≤ (List.range i).length := List.length_filter_le ..
                rw [List.length_range] at q
                rw [List.length_map]
                omega
              · rw [upd_ne (fun z => by rw [← z] at nD2; rw [nD2] at hD4; cases hD4)]
                exact xl.lst hD5
              · have ef : [i].filter (fun j => decide (((cellsB rows cc b e).getD j nilS).length = longB (cellsB rows cc b e))) = [i] := by
                  simp only [List.filter_cons, List.filter_nil, ez, decide_eq_true hzl, if_true]
                rw [upd_same, List.range_succ, List.filter_append, List.map_append, ef, List.map_cons, List.map_nil, Int.natCast_add]
            · rw [decide_eq_false (show ¬ V.int ((z.length : Nat) : Int) = V.int ((longB (cellsB rows cc b e) : Nat) : Int) from fun q => hzl (by injection q with q; exact Int.ofNat.inj q))]
              refine iteF ⟨x5.trans xl, xl.lst hD5, ?_⟩
              rw [List.range_succ, List.filter_append, List.map_append]
              simp only [List.filter_cons, List.filter_nil, ez, decide_eq_false hzl]
              simpa using xl.lst hh
          · rintro H5 ⟨x5, hD5, hh⟩
            have h5 : H5 D2 = some (.lst ((holdB (cellsB rows cc b e) b gap least).map V.int)) := by
              rw [hh]
              unfold holdB
              rw [if_pos hg, List.map_map, lsV, lc]
              rfl
            have nHH := x4.old _ nD2
            refine ⟨_, rfl, _, rfl, _, rfl, _, rfl, _, rfl, _, _, rfl, rfl, _, rfl, _, _, rfl, _, rfl, D, cellsB rows cc b e, rfl, x5.tab, SqL.of hD5, by omega, fun z hz => cells_mem hO hcl hen hz, fun H6 x6 => ⟨_, rfl, (by show 6 ≤ sizeLine; decide), fun t nt => ?_⟩⟩
            have x7 := Ex.laid (o := .tup [.int (cc : Nat), .int (b : Nat), .int (e : Nat), .int (widthB (cellsB rows cc b e) gap least), .bl (rightB (cellsB rows cc b e)), .ref D2]) x6.tab nt
            exact k t D2 _ ((x5.trans x6).trans x7) ((x5.trans x6).old _ nt) nHH ⟨upd_same, (x6.trans x7).lst h5⟩
        · rw [decide_eq_false hg]
          have x5 := x4
          have hD5 := hD4
          have h5 : (upd H3 h0 (.lst [])) h0 = some (.lst ((holdB (cellsB rows cc b e) b gap least).map V.int)) := by
            rw [upd_same]
            unfold holdB
            rw [if_neg hg]
            rfl
          have nHH := x3.old _ nh0
          refine iteF ?_
          refine ⟨_, rfl, _, rfl, _, rfl, _, rfl, _, rfl, _, _, rfl, rfl, _, rfl, _, _, rfl, _, rfl, D, cellsB rows cc b e, rfl, x5.tab, SqL.of hD5, by omega, fun z hz => cells_mem hO hcl hen hz, fun H6 x6 => ⟨_, rfl, (by show 6 ≤ sizeLine; decide), fun t nt => ?_⟩⟩
          have x7 := Ex.laid (o := .tup [.int (cc : Nat), .int (b : Nat), .int (e : Nat), .int (widthB (cellsB rows cc b e) gap least), .bl (rightB (cellsB rows cc b e)), .ref h0]) x6.tab nt
          exact k t h0 _ ((x5.trans x6).trans x7) ((x5.trans x6).old _ nt) nHH ⟨upd_same, (x6.trans x7).lst h5⟩
end
end TG
namespace TG
open PySem L2 Gx
def ofCol (rows : List (List Str)) (c : Nat) : List (Nat × Nat × Nat) := (runsB rows c).map fun p => (c, p.1, p.2)
def entB (rows : List (List Str)) : List (Nat × Nat × Nat) := (List.range 5).flatMap (ofCol rows)
theorem flat_short {α : Type} {F : Nat → List α} {k : Nat} (h : ∀ c, k ≤ c → F c = []) : ∀ d, (List.range (k + d)).flatMap F = (List.range k).flatMap F := by
  intro d
  induction d with
  | zero => rfl
  | succ d ih =>
    rw [← Nat.add_assoc, List.range_succ, List.flatMap_append, ih, List.flatMap_cons, h (k + d) (by omega)]
    simp
theorem col_nil {rows : List (List Str)} {c m : Nat} (h : ∀ r ∈ rows, r.length ≤ m) (hc : m ≤ c + 1) : ofCol rows c = [] := by
  have e : ∀ i, stB rows c i = false := fun i => by
    unfold stB
    have : clB rows c i = false := by
      unfold clB
      cases q : rows[i]? with
      | none => rfl
      | some r => exact decide_eq_false (by have := h r (List.mem_of_getElem? q); omega)
    rw [this]
    rfl
  unfold ofCol runsB
  have : (List.range rows.length).filter (stB rows c) = [] := List.filter_eq_nil_iff.mpr fun i _ => by rw [e i]; exact Bool.false_ne_true
  rw [this]
  rfl
theorem cols_eq {rows : List (List Str)} {m : Nat} (h : ∀ r ∈ rows, r.length ≤ m) (h6 : m ≤ 6) : (List.range m).flatMap (ofCol rows) = entB rows := by
  have e := flat_short (F := ofCol rows) (k := m - 1) fun c hc => col_nil h (by omega)
  have e1 := e (m - (m - 1))
  have e2 := e (5 - (m - 1))
  rw [show m - 1 + (m - (m - 1)) = m by omega] at e1
  rw [show m - 1 + (5 - (m - 1)) = 5 by omega] at e2
  unfold entB
  rw [e1, e2]
theorem run_facts {rows : List (List Str)} {c i : Nat} {p : Nat × Nat} (h : (runsB rows c)[i]? = some p) : p.1 < p.2 ∧ p.2 ≤ rows.length ∧ ∀ j, p.1 ≤ j → j < p.2 → clB rows c j = true := by
  obtain ⟨x, hx, rfl⟩ := get_map h
  have hm := List.mem_filter.mp (List.mem_of_getElem? hx)
  have hst := hm.2
  have hc : clB rows c x = true := by
    unfold stB at hst
    exact (Bool.and_eq_true_iff.mp hst).1
  refine ⟨?_, hi_le (Nat.le_of_lt (cl_lt hc)), fun j h1 h2 => hi_in (j - x) x j (by omega) h2⟩
  show x < hiB rows c x
  rw [hi_yes hc]
  exact hi_ge rows c (x + 1)
/-- the told tuples at ts, their holders at hs -/
structure DescsAt (H : Hp) (ts hs : List Addr) (es : List (Nat × Nat × Nat)) (rows : List (List Str)) (gap least : Int) : Prop where
  len : ts.length = es.length
  len2 : hs.length = es.length
  at_ : ∀ (i : Nat) (t h : Addr) (q : Nat × Nat × Nat), ts[i]? = some t → hs[i]? = some h → es[i]? = some q → DescAt H t h q.1 q.2.1 q.2.2 (cellsB rows q.1 q.2.1 q.2.2) gap least
theorem DescsAt.snoc {H : Hp} {ts hs : List Addr} {es : List (Nat × Nat × Nat)} {rows : List (List Str)} {gap least : Int} {t h : Addr} {q : Nat × Nat × Nat} (x : DescsAt H ts hs es rows gap least) (e : DescAt H t h q.1 q.2.1 q.2.2 (cellsB rows q.1 q.2.1 q.2.2) gap least) : DescsAt H (ts ++ [t]) (hs ++ [h]) (es ++ [q]) rows gap least := by
  refine ⟨by rw [List.length_append, List.length_append, x.len]; rfl, by rw [List.length_append, List.length_append, x.len2]; rfl, fun i u v p h1 h2 h3 => ?_⟩
  by_cases hi : i < ts.length
  · rw [List.getElem?_append_left hi] at h1
    rw [List.getElem?_append_left (by rw [x.len2, ← x.len]; exact hi)] at h2
    rw [List.getElem?_append_left (by rw [← x.len]; exact hi)] at h3
    exact x.at_ i u v p h1 h2 h3
  · have hl := (List.getElem?_eq_some_iff.mp h1).1
    rw [List.length_append, List.length_singleton] at hl
    have e1 : i = ts.length := by omega
    subst e1
    rw [List.getElem?_append_right (Nat.le_refl _), Nat.sub_self] at h1
    rw [x.len, ← x.len2, List.getElem?_append_right (Nat.le_refl _), Nat.sub_self] at h2
    rw [x.len, List.getElem?_append_right (Nat.le_refl _), Nat.sub_self] at h3
    cases h1
    cases h2
    cases h3
    exact e
theorem DescsAt.keep {H H' : Hp} {ts hs : List Addr} {es : List (Nat × Nat × Nat)} {rows : List (List Str)} {gap least : Int} (x : DescsAt H ts hs es rows gap least) (k : ∀ b o, H b = some o → (b ∈ ts ∨ b ∈ hs) → (∀ ps, o ≠ .tbl ps) → H' b = some o) : DescsAt H' ts hs es rows gap least :=
  ⟨x.len, x.len2, fun i t h q h1 h2 h3 => ⟨k _ _ (x.at_ i t h q h1 h2 h3).1 (.inl (List.mem_of_getElem? h1)) (fun ps z => by cases z), k _ _ (x.at_ i t h q h1 h2 h3).2 (.inr (List.mem_of_getElem? h2)) (fun ps z => by cases z)⟩⟩
theorem StyleAt.ex {K : PySem.W.Frag} {cs : List (Addr × Addr)} {H H' : Hp} {a : Addr} {gap least : Int} (p : StyleAt K H a gap least) (e : Ex cs H H') : StyleAt K H' a gap least := ⟨e.sqT p.tup, p.g0, p.g1, p.l0, p.l1⟩
theorem flat_len {α : Type} {F : Nat → List α} {b : Nat} (h : ∀ c, (F c).length ≤ b) : ∀ n, ((List.range n).flatMap F).length ≤ n * b := by
  intro n
  induction n with
  | zero => simp
  | succ n ih =>
    rw [List.range_succ, List.flatMap_append, List.length_append, List.flatMap_cons, List.flatMap_nil, List.append_nil, Nat.succ_mul]
    have := h n
    omega
theorem col_len (rows : List (List Str)) (c : Nat) : (ofCol rows c).length ≤ rows.length := by
  unfold ofCol runsB
  rw [List.length_map, List.length_map]
  have : ((List.range rows.length).filter (stB rows c)).length ≤ (List.range rows.length).length := List.length_filter_le ..
  rw [List.length_range] at this
  exact this
def rLenSeq (K : PySem.W.Frag) : List V → Hp → VK → Prop := fun xs H Q => ∃ p ys, xs = [V.ref p] ∧ (SqL K H p ys ∨ SqT K H p ys) ∧ Q (.int (ys.length : Nat)) H
section
variable {P : Program} {w : World} {K : PySem.W.Frag} {mg : Str → Option Value} {base : Heap} {cs : List (Addr × Addr)}
def spStr (K : PySem.W.Frag) (cs : List (Addr × Addr)) : Sp := fun vs H Q _ => ∃ (a st : Addr) (as : List Addr) (rows : List (List Str)) (gap least : Int), vs = [.ref a, .ref st] ∧ Tabs cs H ∧ PageAt K H a as rows ∧ PgOk rows ∧ StyleAt K H st gap least ∧
  ∀ (r : Addr) (ts hs : List Addr) (H' : Hp), Ex cs H H' → H r = none → (∀ t ∈ ts, H t = none) → (∀ h ∈ hs, H h = none) → H' r = some (.lst (ts.map V.ref)) → DescsAt H' ts hs (entB rows) rows gap least → Q (.ref r) H'
theorem sc_str : FnScope ["page", "style", "told", "column", "begin", "end"] ["page", "style"] (defScope s_stretches) := ⟨rfl, rfl, rfl, by decide +kernel, rfl, by decide +kernel, by decide +kernel⟩
theorem ok_str {f c Pt g1 g2 g3 g4 : Addr} {fd fd1 fd2 fd3 fd4 : FuncData} (T : Txt mg) (F : Fun K "stretches" "stretches" s_stretches f fd) (hc : fd.code = .ref c) (TB : GxR.TabB base mg c Pt) (hm : (c, Pt) ∈ cs)
    (G1 : FnOk P w K mg base CX0 11 g1 fd1 ["page"] (spCheck K cs)) (k1 : PySem.W.keepIn K (.ref g1) = true) (b1 : Binds K fd1 ["page"] []) (m1 : mg "check_page" = some (.ref g1))
    (G2 : FnOk P w K mg base CX0 2 g2 fd2 ["style"] (spStyle K)) (k2 : PySem.W.keepIn K (.ref g2) = true) (b2 : Binds K fd2 ["style"] []) (m2 : mg "check_style" = some (.ref g2))
    (G3 : FnOk P w K mg base CX0 2 g3 fd3 ["page", "column"] (spRuns K cs)) (k3 : PySem.W.keepIn K (.ref g3) = true) (b3 : Binds K fd3 ["page", "column"] []) (m3 : mg "closed_runs" = some (.ref g3))
    (G4 : FnOk P w K mg base CX0 6 g4 fd4 ["page", "style", "column", "begin", "end"] (spDesc K cs)) (k4 : PySem.W.keepIn K (.ref g4) = true) (b4 : Binds K fd4 ["page", "style", "column", "begin", "end"] []) (m4 : mg "described" = some (.ref g4)) :
    FnOk P w K mg base CX0 12 f fd ["page", "style"] (spStr K cs) := by
  refine fun_okT F hc sc_str (fun vs H Q E h => ?_) (fun A outer s H vs Q E hr h => ?_)
  · obtain ⟨a, st, as, rows, gap, least, rfl, _⟩ := h
    rfl
  · obtain ⟨a, st, as, rows, gap, least, rfl, hT, hP, hO, hS, k⟩ := h
    have nd := sc_str.nd
    refine ⟨_, pss_cons (ps_expr (pe_call G1 hr (by rfl) m1 k1 b1 .nil pass0 (pa_cons (pv 0) pa_nil))) (pss_cons (ps_expr (pe_call G2 (hr.mono (by decide)) (by rfl) m2 k2 b2 .nil pass0 (pa_cons (pv 1) pa_nil)))
      (pss_cons (ps_set (i := 2) nd rfl (.inl rfl) (pe_lst pa_nil))
      (pss_cons (ps_for PassesOwn.never rfl (pi_range1 (by rfl) T.range (pa_cons (pe_maxG (k := 0) (P := Pt) (hr.mono (by decide)) (by rfl) T.max TB rfl ⟨rfl, rfl, by decide +kernel, by decide +kernel, rfl, rfl⟩ (pi_list (pv 0)) (fun A' code s4 H4 fp hr' => pe_callB (r := rLenSeq K) call_len_seq (by rfl) T.len PySem.boot_len (pa_cons (pv 0) pa_nil)) (fun _ => rfl)) pa_nil)) (pg_name (i := 3) nd rfl (.inl rfl))
        (pss_one (ps_for PassesOwn.never rfl (pi_list (pe_call G3 (hr.mono (by decide)) (by rfl) m3 k3 b3 .nil pass0 (pa_cons (pv 0) (pa_cons (pv 3) pa_nil)))) (pg_tup rfl (pgs_cons (pg_name (i := 4) nd rfl (.inl rfl)) (pgs_cons (pg_name (i := 5) nd rfl (.inl rfl)) pgs_nil)))
          (pss_one (ps_expr (pe_bm PySem.F.plainAttrs_list PySem.F.slot_list_append PySem.F.type_list_append mt_append (pv 2) (pa_cons (pe_call G4 (hr.mono (by decide)) (by rfl) m4 k4 b4 .nil pass0 (pa_cons (pv 0) (pa_cons (pv 1) (pa_cons (pv 3) (pa_cons (pv 4) (pa_cons (pv 5) pa_nil)))))) pa_nil)))))))
      (pss_one (ps_ret (pv 2)))))), ?_⟩
    have ll := hO.len
    have lp := hO.pos
    have lsz : (1000 : Nat) < sizeLine := by decide
    have las : (as.map V.ref).length = rows.length := by rw [List.length_map, hP.len]
    refine ⟨_, rfl, a, as, rows, rfl, hT, hP, hO, fun H1 x1 => ⟨_, rfl, st, gap, least, rfl, hS.ex x1, small0, fun p np => ?_⟩⟩
    have x2 := x1.trans (Ex.laid (o := .lst []) x1.tab np)
    have np0 := x1.old _ np
    refine ⟨_, rfl, a, rfl, ⟨_, x2.sqL hP.lst⟩, x2.tab _ hm, fun H2 hH2 => ?_⟩
    have xt := Ex.tabbed x2.tab hm hH2
    have x3 := x2.trans xt
    have hp3 : H2 p = some (.lst []) := xt.lst upd_same
    refine max_by (w := walk_list (a := a) (xs := as.map V.ref)) (fun i => (((rows.getD i []).length : Nat) : Int)) (by omega) (fun _ H' => Ex cs H H' ∧ H' p = some (.lst [])) ⟨x3, hp3⟩ (fun i H' _ x => x.1.sqL hP.lst) (fun i v H3 H4 hi x y Z hZ => ?_) (fun m H3 x4 hex hall => ?_)
    · obtain ⟨rfl, hv⟩ := y
      obtain ⟨q, hq, rfl⟩ := get_map hv
      obtain ⟨r, hr2⟩ := getP (xs := rows) (i := i) (by omega)
      refine ⟨_, rfl, q, _, rfl, .inr (x.1.sqT (hP.row i q r hq hr2)), ?_⟩
      have z := hZ _ x
      have er : rows.getD i [] = r := by rw [List.getD_eq_getElem?_getD, hr2]; rfl
      rw [er] at z
      rw [List.length_map]
      exact z
    · obtain ⟨x4, hp4⟩ := x4
      have hmax : ∀ r ∈ rows, r.length ≤ m.toNat := fun r hr2 => by
        obtain ⟨j, hj, e⟩ := List.getElem_of_mem hr2
        have h1 := hall j (by omega)
        rw [List.getD_eq_getElem?_getD, List.getElem?_eq_getElem hj, e] at h1
        have h1' : ((r.length : Nat) : Int) ≤ m := h1
        omega
      have hm6 : m.toNat ≤ 6 := by
        obtain ⟨i, hi, e1⟩ := hex
        rw [List.getD_eq_getElem?_getD, List.getElem?_eq_getElem (by omega)] at e1
        have h2 := (hO.rows _ (List.getElem_mem (l := rows) (show i < _ by omega))).len
        have e1' : ((rows[i]'(by omega)).length : Int) = m := e1
        omega
      have hm0 : 0 ≤ m := by
        obtain ⟨i, hi, e1⟩ := hex
        rw [← e1]
        exact Int.natCast_nonneg _
      refine ⟨m, rfl, by omega, by omega, for_range (n := m.toNat) (fun i σ H' => ∃ (ts hs : List Addr) (c3 c4 c5 : Option V), σ = [some (.ref a), some (.ref st), some (.ref p), c3, c4, c5] ∧ Ex cs H H' ∧ H' p = some (.lst (ts.map V.ref)) ∧ (∀ t ∈ ts, H t = none ∧ t ≠ p) ∧ (∀ h ∈ hs, H h = none ∧ h ≠ p) ∧ DescsAt H' ts hs ((List.range i).flatMap (ofCol rows)) rows gap least)
        ⟨[], [], none, none, none, rfl, x4, hp4, fun t h => by simp at h, fun t h => by simp at h, rfl, rfl, fun i t h q h1 => by simp at h1⟩ ?_ ?_⟩
      · rintro i σ H5 hi ⟨ts, hs, c3, c4, c5, rfl, x5, hp5, ft, fh, ds⟩
        refine ⟨_, rfl, _, rfl, a, as, rows, i, by rw [Int.zero_add]; rfl, x5.tab, hP.ex x5, ll, fun r1 ts1 H6 x6 nr1 hr1 pr1 => ⟨r1, rfl, ⟨_, SqL.of hr1⟩, ?_⟩⟩
        have r1p : r1 ≠ p := fun z => by rw [z, hp5] at nr1; cases nr1
        have hl1 : (ts1.map V.ref).length = (ofCol rows i).length := by unfold ofCol; rw [List.length_map, List.length_map, pr1.len]
        refine for_list (xs := ts1.map V.ref) (fun j σ H' => ∃ (ts hs : List Addr) (c4 c5 : Option V), σ = [some (.ref a), some (.ref st), some (.ref p), some (.int (0 + (i : Nat))), c4, c5] ∧ Ex cs H H' ∧ H' r1 = some (.lst (ts1.map V.ref)) ∧ PairsAt H' ts1 (runsB rows i) ∧ H' p = some (.lst (ts.map V.ref)) ∧ (∀ t ∈ ts, H t = none ∧ t ≠ p) ∧ (∀ h ∈ hs, H h = none ∧ h ≠ p) ∧ DescsAt H' ts hs ((List.range i).flatMap (ofCol rows) ++ (ofCol rows i).take j) rows gap least)
          ⟨ts, hs, c4, c5, rfl, x5.trans x6, hr1, pr1, x6.lst hp5, ft, fh, by rw [List.take_zero, List.append_nil]; exact ds.keep fun b o e _ n => x6.ext b o e n⟩ (fun j σ H' _ ⟨_, _, _, _, _, _, q, _⟩ => SqL.of q) ?_ ?_
        · rintro j v σ H7 hv ⟨ts, hs, c4, c5, rfl, x7, hr7, pr7, hp7, ft, fh, ds⟩
          obtain ⟨t1, ht1, rfl⟩ := get_map hv
          obtain ⟨q, hq⟩ := getP (xs := runsB rows i) (i := j) (by rw [← pr7.len]; exact (List.getElem?_eq_some_iff.mp ht1).1)
          obtain ⟨f1, f2, f3⟩ := run_facts hq
          have hsz : (ts.map V.ref).length < sizeLine := by
            rw [List.length_map, ds.len, List.length_append, List.length_take]
            have q1 := flat_len (F := ofCol rows) (b := 30) (fun c => Nat.le_trans (col_len rows c) ll) i
            have q2 := col_len rows i
            have q3 : min j (ofCol rows i).length ≤ (ofCol rows i).length := Nat.min_le_right _ _
            omega
          refine ⟨t1, _, rfl, .inl (.inl (pr7.at_ j t1 q ht1 hq)), rfl, _, _, rfl, _, _, rfl, rfl, ?_⟩
          refine ⟨_, rfl, .inl ⟨rfl, _, SqL.of hp7⟩, _, rfl, _, rfl, _, rfl, _, rfl, _, rfl, a, st, as, rows, gap, least, i, q.1, q.2, by rw [Int.zero_add]; rfl, x7.tab, hP.ex x7, hO, hS.ex x7, f1, f2, f3, fun t h H8 x8 nt nh hd => ⟨p, _, .ref t, rfl, rfl, x8.lst hp7, hsz, ?_⟩⟩
          have tp : t ≠ p := fun z => by rw [z, hp7] at nt; cases nt
          have hp' : h ≠ p := fun z => by rw [z, hp7] at nh; cases nh
          have x9 := ex_new (o := .lst (ts.map V.ref ++ [.ref t])) hT (x7.trans x8) np0
          refine ⟨ts ++ [t], hs ++ [h], _, _, rfl, x9, by rw [upd_ne r1p]; exact x8.lst hr7, pr7.keep fun b xs e => ?_, by rw [upd_same, List.map_append]; rfl, fun u hu => ?_, fun u hu => ?_, ?_⟩
          · rw [upd_ne (fun z => by rw [z, hp7] at e; cases e)]; exact x8.tup e
          · rcases List.mem_append.mp hu with z | z
            · exact ft u z
            · rw [List.mem_singleton.mp z]; exact ⟨x7.old _ nt, tp⟩
          · rcases List.mem_append.mp hu with z | z
            · exact fh u z
            · rw [List.mem_singleton.mp z]; exact ⟨x7.old _ nh, hp'⟩
          · have ej : (ofCol rows i)[j]? = some (i, q.1, q.2) := by unfold ofCol; rw [List.getElem?_map, hq]; rfl
            rw [List.take_add_one, ej, ← List.append_assoc]
            refine (ds.keep fun b o e m n => ?_).snoc (q := (i, q.1, q.2)) ⟨by rw [upd_ne tp]; exact hd.1, by rw [upd_ne hp']; exact hd.2⟩
            have nb : b ≠ p := by
              rcases m with m | m
              · exact (ft b m).2
              · exact (fh b m).2
            rw [upd_ne nb]; exact x8.ext b o e n
        · rintro σ H7 ⟨ts, hs, c4, c5, rfl, x7, hr7, pr7, hp7, ft, fh, ds⟩
          refine ⟨ts, hs, _, _, _, rfl, x7, hp7, ft, fh, ?_⟩
          rw [hl1, List.take_of_length_le (Nat.le_refl _)] at ds
          rw [List.range_succ, List.flatMap_append, List.flatMap_cons, List.flatMap_nil, List.append_nil]
          exact ds
      · rintro σ H5 ⟨ts, hs, c3, c4, c5, rfl, x5, hp5, ft, fh, ds⟩
        refine ⟨_, rfl, k p ts hs H5 x5 np0 (fun t h => (ft t h).1) (fun t h => (fh t h).1) hp5 ?_⟩
        rw [cols_eq hmax hm6] at ds
        exact ds
end
end TG
namespace TG
open PySem L2 Gx
theorem cl_app (x y : Str) : cl (x ++ y) = cl x ++ cl y := TL.tl_append x y
theorem joinL_nil : ∀ l : List (List Nat), TL.joinL [] l = l.flatten
  | [] => rfl
  | [p] => by simp [TL.joinL]
  | p :: q :: r => by
    show p ++ ([] ++ TL.joinL [] (q :: r)) = _
    rw [joinL_nil (q :: r)]
    rfl
theorem cl_join (ys : List Str) : cl (Txt.join "" ys) = (ys.map cl).flatten := by
  have e : ("" : Str) = SX.S [] := by decide +kernel
  have e2 : ys = (ys.map cl).map SX.S := by
    rw [List.map_map]
    conv => lhs; rw [← List.map_id ys]
    exact List.map_congr_left fun y _ => (SX.S_tl y).symm
  rw [e]
  conv => lhs; rw [e2]
  rw [SX.join_S, joinL_nil]
theorem num_ok {n : Int} (h0 : 0 ≤ n) (h1 : n < 10 ^ 9) : (Str.ofString (toString n)).length ≤ 9 ∧ ∀ c ∈ cl (Str.ofString (toString n)), 48 ≤ c ∧ c ≤ 57 := by
  refine ⟨PyProof.Rows.toString_length_le h0 (by decide) h1, fun c hc => ?_⟩
  obtain ⟨m, rfl⟩ := Int.eq_ofNat_of_zero_le h0
  have hc' : c ∈ (Str.ofString (toString ((m : Nat) : Int))).cps.toList := hc
  rw [PySem.W.KIN.signs_num] at hc'
  obtain ⟨ch, hch, e⟩ := List.mem_map.mp hc'
  have r := PyProof.Rows.digit_range (Nat.isDigit_of_mem_toDigits (by decide) (by decide) hch)
  rw [← e]
  exact r
theorem sg_of {z : Str} (h : (z.cps.toList.all fun c => decide (SgOk c)) = true) : ∀ c ∈ cl z, SgOk c := fun c hc => of_decide_eq_true (List.all_eq_true.mp h c hc)
end TG
namespace TG
open PySem L2 Gx
abbrev everyS : Str := " !\"#$&'()*+,-./0123456789:;<=>?@ABCDEFGHIJKLMNOPQRSTUVWXYZ[\\]^_`abcdefghijklmnopqrstuvwxyz{|}~"
theorem every_ok : ∀ c ∈ cl everyS, SgOk c := sg_of (by decide +kernel)
theorem abc_len : (cl "abcdefghij").length = 10 := by decide +kernel
theorem emp_len : (Str.ofString "").length = 0 := by decide +kernel
theorem every_len : (cl everyS).length = 94 := by decide +kernel
theorem cells_ok {l : List Str} (h : (l.all fun z => decide (z.length ≤ 10) && z.cps.toList.all fun c => decide (SgOk c)) = true) : ∀ z ∈ l, CellOk z := fun z hz => by
  have q := Bool.and_eq_true_iff.mp (List.all_eq_true.mp h z hz)
  exact ⟨of_decide_eq_true q.1, sg_of q.2⟩
/-- one of a written list -/
theorem pick {α : Type} {xs : List α} {i : Int} (h0 : 0 ≤ i) (h1 : i < xs.length) : ∃ x, x ∈ xs ∧ atI xs i = some x := by
  obtain ⟨n, rfl⟩ := Int.eq_ofNat_of_zero_le h0
  have hn : n < xs.length := by have : ((n : Nat) : Int) < xs.length := h1; omega
  exact ⟨xs[n], List.getElem_mem hn, atI_nat (List.getElem?_eq_getElem hn)⟩
theorem iteB {c A B : Prop} [Decidable c] (h1 : A) (h2 : B) : if c then A else B := ite2 (fun _ => h1) fun _ => h2
theorem len_cl (z : Str) : z.length = (cl z).length := by simp [Str.length, cl]
theorem box_new {H : Hp} {b l p : Addr} {o : HO} (x : BoxAt H b l) (n : H p = none) : BoxAt (upd H p o) b l := by
  obtain ⟨ns, st, h1, h2, h3⟩ := x
  exact ⟨ns, st, by rw [upd_ne (ne_of_none h1 n)]; exact h1, by rw [upd_ne (ne_of_none h2 n)]; exact h2, h3⟩
theorem new_ne {H : Hp} {b l p : Addr} (x : BoxAt H b l) (n : H p = none) : p ≠ b ∧ p ≠ l := by
  obtain ⟨ns, st, h1, h2, h3⟩ := x
  exact ⟨(ne_of_none h1 n).symm, (ne_of_none h2 n).symm⟩
theorem box_upd {H : Hp} {b l p : Addr} {o : HO} (x : BoxAt H b l) (h1 : p ≠ b) (h2 : p ≠ l) : BoxAt (upd H p o) b l := by
  obtain ⟨ns, st, g1, g2, g3⟩ := x
  exact ⟨ns, st, by rw [upd_ne h1.symm]; exact g1, by rw [upd_ne h2.symm]; exact g2, g3⟩
theorem kb_new {H : Hp} {b l p : Addr} {o : HO} (n : H p = none) : KB b l H (upd H p o) := fun c u e _ _ => by rw [upd_ne (ne_of_none e n)]; exact e
theorem kb_upd {H H' : Hp} {b l p : Addr} {o : HO} (x : KB b l H H') (n : H p = none) : KB b l H (upd H' p o) := fun c u e h1 h2 => by rw [upd_ne (ne_of_none e n)]; exact x c u e h1 h2
theorem atI_map {α β : Type} {f : α → β} {xs : List α} {i : Int} {x : α} (h : atI xs i = some x) : atI (xs.map f) i = some (f x) := by
  unfold atI at h ⊢
  rw [List.length_map]
  cases e : ixN xs.length i with
  | none => rw [e] at h; cases h
  | some j =>
    rw [e] at h
    have h' : xs[j]? = some x := h
    show (xs.map f)[j]? = some (f x)
    rw [List.getElem?_map, h']
    rfl
/-- a list of single signs at D -/
structure OnesAt (b l : Addr) (H : Hp) (D : Addr) (i : Nat) (H' : Hp) : Prop where
  box : BoxAt H' b l
  keep : KB b l H H'
  nD : H D = none
  db : D ≠ b
  dl : D ≠ l
  ones : ∃ cs : List Nat, cs.length = i ∧ (∀ c ∈ cs, SgOk c) ∧ H' D = some (.lst (sV (cs.map fun c => ⟨#[c]⟩)))
theorem OnesAt.start {b l : Addr} {H H1 : Hp} {D : Addr} (hB : BoxAt H1 b l) (x : KB b l H H1) (n : H1 D = none) (nb : BoxAt H b l) : OnesAt b l H D 0 (upd H1 D (.lst [])) := by
  obtain ⟨d1, d2⟩ := new_ne hB n
  have nD : H D = none := by
    cases e : H D with
    | none => rfl
    | some o => rw [x D o e d1 d2] at n; cases n
  exact ⟨box_new hB n, kb_upd x nD, nD, d1, d2, [], rfl, fun c h => by simp at h, upd_same⟩
theorem OnesAt.more {b l : Addr} {H H1 H2 : Hp} {D : Addr} {i c : Nat} (o : OnesAt b l H D i H1) (hc : SgOk c) (hB : BoxAt H2 b l) (x : KB b l H1 H2) :
    ∃ acc, H2 D = some (.lst acc) ∧ acc.length = i ∧ OnesAt b l H D (i + 1) (upd H2 D (.lst (acc ++ [.str ⟨#[c]⟩]))) := by
  obtain ⟨cs, h1, h2, h3⟩ := o.ones
  refine ⟨_, x D _ h3 o.db o.dl, by rw [List.length_map, List.length_map, h1], box_upd hB o.db o.dl, kb_upd (o.keep.trans x) o.nD, o.nD, o.db, o.dl, cs ++ [c], by rw [List.length_append, h1]; rfl, fun d hd => ?_, ?_⟩
  · rcases List.mem_append.mp hd with h | h
    · exact h2 d h
    · rw [List.mem_singleton.mp h]; exact hc
  · rw [upd_same]
    simp [sV]
theorem OnesAt.done {b l : Addr} {H H1 : Hp} {D : Addr} {i : Nat} (o : OnesAt b l H D i H1) : ∃ ys : List Str, H1 D = some (.lst (ys.map V.str)) ∧ ys.length = i ∧ (ys.map fun y => y.length).sum = i ∧ (i ≤ 10 → CellOk (Txt.join "" ys)) := by
  obtain ⟨cs, h1, h2, h3⟩ := o.ones
  refine ⟨_, h3, by rw [List.length_map, h1], ?_, fun hi => ?_⟩
  · rw [← h1]
    clear h1 h2 h3
    induction cs with
    | nil => rfl
    | cons c cs ih =>
      rw [List.map_cons, List.map_cons, List.sum_cons, ih, List.length_cons]
      show 1 + cs.length = cs.length + 1
      omega
  · have e : cl (Txt.join "" (cs.map fun c => (⟨#[c]⟩ : Str))) = cs := by
      rw [cl_join, List.map_map]
      clear h1 h2 h3
      induction cs with
      | nil => rfl
      | cons c cs ih =>
        rw [List.map_cons, List.flatten_cons, ih]
        rfl
    exact ⟨by rw [len_cl, e, h1]; exact hi, fun c hc => h2 c (by have hc : c ∈ cl _ := hc; rw [e] at hc; exact hc)⟩
abbrev oddL : List Str := ["-", "--1", "1-", "0x", " 1", "1 ", "-0", "007", " ", "   ", "1234567x", "12345678-", "-0000000 1"]
theorem odd_ok : ∀ z ∈ oddL, CellOk z := cells_ok (by decide +kernel)
section
variable {P : Program} {w : World} {K : PySem.W.Frag} {mg : Str → Option Value} {base : Heap} {cs : List (Addr × Addr)}
def spSign : Sp := fun vs H Q _ => ∃ (b l : Addr), vs = [.ref b] ∧ BoxAt H b l ∧ ∀ (c : Nat) (H' : Hp), SgOk c → BoxAt H' b l → KB b l H H' → Q (.str ⟨#[c]⟩) H'
theorem sc_sign : FnScope ["_law_box", "_law_every"] ["_law_box"] (defScope s_sign) := ⟨rfl, rfl, rfl, by decide +kernel, rfl, by decide +kernel, by decide +kernel⟩
theorem ok_sign {f g : Addr} {fd fdg : FuncData} (F : Fun K "_law_sign" "_law_sign" s_sign f fd)
    (G : FnOk P w K mg base CX0 1 g fdg ["_law_box", "_law_many"] spTake) (kp : PySem.W.keepIn K (.ref g) = true) (bd : Binds K fdg ["_law_box", "_law_many"] []) (mgg : mg "_law_take" = some (.ref g)) : FnOk P w K mg base CX0 2 f fd ["_law_box"] spSign := by
  refine F.ok sc_sign (fun vs H Q E h => ?_) (fun cdv A outer s H vs Q E hr h => ?_)
  · obtain ⟨b, l, rfl, _⟩ := h
    rfl
  · obtain ⟨b, l, rfl, hB, k⟩ := h
    have nd := sc_sign.nd
    refine ⟨_, pss_cons (ps_set (i := 1) nd rfl (.inl rfl) pe_str) (pss_one (ps_ret (pe_ix ix_str (pv 1) (pe_call G hr (by rfl) mgg kp bd .nil pass0 (pa_cons (pv 0) (pa_cons pe_int pa_nil))) (fun _ _ => rfl)))), ?_⟩
    refine ⟨_, rfl, _, rfl, b, l, 94, rfl, hB, by decide, by decide, fun r H1 r0 r1 hB1 x1 => ?_⟩
    obtain ⟨c, hc, e⟩ := pick (xs := cl everyS) r0 (by rw [every_len]; exact r1)
    exact ⟨everyS, r, c, rfl, rfl, line10 (by decide +kernel), e, k c H1 (every_ok c hc) hB1 x1⟩
def spCell : Sp := fun vs H Q _ => ∃ (b l : Addr) (sort : Int), vs = [.ref b, .int sort] ∧ BoxAt H b l ∧ ∀ (z : Str) (H' : Hp), CellOk z → BoxAt H' b l → KB b l H H' → Q (.str z) H'
theorem sc_cell : FnScope ["_law_box", "_law_sort", "_law_way", "_law_odd", "_law_many", "_law_k"] ["_law_box", "_law_sort"] (defScope s_cell) := ⟨rfl, rfl, rfl, by decide +kernel, rfl, by decide +kernel, by decide +kernel⟩
abbrev nmCell : List Str := ["_law_box", "_law_sort", "_law_way", "_law_odd", "_law_many", "_law_k"]
theorem ok_cell {f g g2 : Addr} {fd fdg fd2 : FuncData} (T : Txt mg) (F : Fun K "_law_cell" "_law_cell" s_cell f fd)
    (G : FnOk P w K mg base CX0 1 g fdg ["_law_box", "_law_many"] spTake) (kp : PySem.W.keepIn K (.ref g) = true) (bd : Binds K fdg ["_law_box", "_law_many"] []) (mgg : mg "_law_take" = some (.ref g))
    (G2 : FnOk P w K mg base CX0 2 g2 fd2 ["_law_box"] spSign) (kp2 : PySem.W.keepIn K (.ref g2) = true) (bd2 : Binds K fd2 ["_law_box"] []) (mg2 : mg "_law_sign" = some (.ref g2)) : FnOk P w K mg base CX0 3 f fd ["_law_box", "_law_sort"] spCell := by
  refine F.ok sc_cell (fun vs H Q E h => ?_) (fun cdv A outer s H vs Q E hr h => ?_)
  · obtain ⟨b, l, sort, rfl, _⟩ := h
    rfl
  · obtain ⟨b, l, sort, rfl, hB, k⟩ := h
    have nd := sc_cell.nd
    have hr1 : Room 1 _ := hr.mono (by decide)
    refine ⟨_, pss_cons (ps_set (i := 2) nd rfl (.inl rfl) (pe_call G hr1 (by rfl) mgg kp bd .nil pass0 (pa_cons (pv 0) (pa_cons pe_int pa_nil))))
      (pss_cons (ps_if (pt_cmpR op_eq (pv 2) pe_int (nomark _)) (pss_one (ps_ret pe_str)) pss_nil)
      (pss_cons (ps_if (PW.pt (pw_or (pt_cmpR op_eq (pv 2) pe_int (nomark _)) (pw_or1 (PW.pt (pw_and (pt_cmpR op_eq (pv 1) pe_int (nomark _)) (pw_and1 (pt_cmpR op_lt (pv 2) pe_int (nomark _)))))))) (pss_one (ps_ret (pe_op op_add_str (pe_ix ix_list (pe_lst (pa_cons pe_str (pa_cons pe_str pa_nil))) (pe_op op_fdivN (pe_call G hr1 (by rfl) mgg kp bd .nil pass0 (pa_cons (pv 0) (pa_cons pe_int pa_nil))) pe_int) (fun _ _ => rfl)) (pe_callTy call_str_int (by rfl) T.str (by decide +kernel) (pa_cons (pe_call G hr1 (by rfl) mgg kp bd .nil pass0 (pa_cons (pv 0) (pa_cons (pe_ix ix_list (pe_lst (pa_cons pe_int (pa_cons pe_int (pa_cons (pe_op op_pow pe_int pe_int) pa_nil)))) (pe_call G hr1 (by rfl) mgg kp bd .nil pass0 (pa_cons (pv 0) (pa_cons pe_int pa_nil))) (fun _ _ => rfl)) pa_nil))) pa_nil))))) pss_nil)
      (pss_cons (ps_if (pt_cmpR op_eq (pv 2) pe_int (nomark _)) (pss_cons (ps_set (i := 3) nd rfl (.inl rfl) (pe_lst (pa_cons pe_str (pa_cons pe_str (pa_cons pe_str (pa_cons pe_str (pa_cons pe_str (pa_cons pe_str (pa_cons pe_str (pa_cons pe_str (pa_cons pe_str (pa_cons pe_str (pa_cons pe_str (pa_cons pe_str (pa_cons pe_str pa_nil))))))))))))))) (pss_one (ps_ret (pe_ix ix_list (pv 3) (pe_call G hr1 (by rfl) mgg kp bd .nil pass0 (pa_cons (pv 0) (pa_cons pe_int pa_nil))) (fun _ _ => rfl))))) pss_nil)
      (pss_cons (ps_set (i := 4) nd rfl (.inl rfl) (pe_op op_add pe_int (pe_call G hr1 (by rfl) mgg kp bd .nil pass0 (pa_cons (pv 0) (pa_cons (pe_ix ix_list (pe_lst (pa_cons pe_int (pa_cons pe_int pa_nil))) (pe_call G hr1 (by rfl) mgg kp bd .nil pass0 (pa_cons (pv 0) (pa_cons pe_int pa_nil))) (fun _ _ => rfl)) pa_nil)))))
      (pss_cons (ps_if (pt_cmpR op_lt (pv 2) pe_int (nomark _)) (pss_one (ps_ret (pe_join pe_str (pe_lc (own := [("_law_k", 5)]) (g := gName 5) (tt := tYes) rfl nd (pi_range1 (by rfl) T.range (pa_cons (pv 4) pa_nil)) (blkOk_by (own := [("_law_k", 5)]) (N := nmCell) (sc := defScope s_cell) (by decide +kernel)) (fun _ _ _ _ _ => pg_name (i := 5) nd rfl (Or.inl rfl)) (fun _ _ _ _ _ => pts_nil) (fun s1 H1 C1 cl1 fp1 => pe_ix ix_str pe_str (pe_call G hr1 (by rfl) mgg kp bd .nil pass0 (pa_cons (pv 0) (pa_cons pe_int pa_nil))) (fun _ _ => rfl)))))) pss_nil)
      (pss_one (ps_ret (pe_join pe_str (pe_lc (own := [("_law_k", 5)]) (g := gName 5) (tt := tYes) rfl nd (pi_range1 (by rfl) T.range (pa_cons (pv 4) pa_nil)) (blkOk_by (own := [("_law_k", 5)]) (N := nmCell) (sc := defScope s_cell) (by decide +kernel)) (fun _ _ _ _ _ => pg_name (i := 5) nd rfl (Or.inl rfl)) (fun _ _ _ _ _ => pts_nil) (fun s1 H1 C1 cl1 fp1 => pe_call G2 hr (by rfl) mg2 kp2 bd2 .nil pass0 (pa_cons (pv 0) pa_nil))))))))))), ?_⟩
    have szl : (1000 : Nat) < sizeLine := by decide
    refine ⟨_, rfl, b, l, 9, rfl, hB, by decide, by decide, fun way H1 w0 w1 hB1 x1 => ⟨_, rfl, rfl, _, rfl, iteB ?_ ?_⟩⟩
    · exact k _ H1 ⟨by decide +kernel, sg_of (by decide +kernel)⟩ hB1 x1
    refine ⟨_, rfl, rfl, _, rfl, iteB (iteT ?body) ⟨_, rfl, rfl, _, rfl, iteB ⟨_, rfl, _, _, rfl, rfl, _, rfl, iteB ?body ?rest⟩ (iteF ?rest)⟩⟩
    case body =>
      refine ⟨line10 (by decide), fun p np => ⟨_, rfl, b, l, 3, rfl, box_new hB1 np, by decide, by decide, fun r H2 r0 r1 hB2 x2 => ⟨r, 2, rfl, rfl, ⟨by decide, by decide⟩, ?_⟩⟩⟩
      have y2 := (x1.trans (kb_new np)).trans x2
      have e2 : r.fdiv 2 = r / 2 := Int.fdiv_eq_ediv_of_nonneg r (by decide)
      obtain ⟨v, hv, ev⟩ := pick (xs := [(⟨#[]⟩ : Str), ⟨#[45]⟩]) (i := r.fdiv 2) (by omega) (by show r.fdiv 2 < 2; omega)
      obtain ⟨nb, nl⟩ := new_ne hB1 np
      have l1 : ([("" : Str), "-"] : List Str) = [⟨#[]⟩, ⟨#[45]⟩] := by decide +kernel
      have hp2 : H2 p = some (.lst (sV [("" : Str), "-"])) := x2 p _ upd_same nb nl
      refine ⟨p, _, _, .str v, rfl, rfl, SqL.of hp2, by rw [l1]; exact atI_map ev, ?_⟩
      refine ⟨_, rfl, 10, 9, rfl, rfl, ⟨by decide, by decide, by decide⟩, line10 (by decide), fun p2 np2 => ⟨_, rfl, b, l, 3, rfl, box_new hB2 np2, by decide, by decide, fun r2 H4 s0 s1 hB4 x4 => ?_⟩⟩
      obtain ⟨nb2, nl2⟩ := new_ne hB2 np2
      have y4 := (y2.trans (kb_new np2)).trans x4
      have hp4 := x4 p2 _ upd_same nb2 nl2
      obtain ⟨m, hm, em⟩ := pick (xs := [(10 : Int), 1000, 1000000000]) (i := r2) s0 s1
      have hm2 : 0 < m ∧ m ≤ 1000000000 := by
        simp only [List.mem_cons, List.not_mem_nil, or_false] at hm
        omega
      refine ⟨p2, _, _, .int m, rfl, rfl, SqL.of hp4, atI_map (f := V.int) em, b, l, m, rfl, hB4, hm2.1, by omega, fun n H5 n0 n1 hB5 x5 => ⟨n, rfl, ?_, v, _, rfl, rfl, ?_, ?_⟩⟩
      · by_cases hz : n.natAbs = 0
        · rw [hz]; decide
        · refine Nat.lt_of_lt_of_le ((Nat.log2_lt hz).mpr (show n.natAbs < 2 ^ 30 by omega)) (by decide)
      · have h9 := (num_ok n0 (by omega)).1
        have hv1 : v.length ≤ 1 := by
          simp only [List.mem_cons, List.not_mem_nil, or_false] at hv
          rcases hv with rfl | rfl <;> decide
        omega
      · obtain ⟨h9, hd9⟩ := num_ok n0 (by omega)
        have hv1 : v.length ≤ 1 ∧ ∀ c ∈ cl v, SgOk c := by
          simp only [List.mem_cons, List.not_mem_nil, or_false] at hv
          rcases hv with rfl | rfl <;> exact ⟨by decide, sg_of (by decide)⟩
        refine k _ H5 ⟨?_, fun c hc => ?_⟩ hB5 (y4.trans x5)
        · rw [len_cl, cl_app, List.length_append, ← len_cl, ← len_cl]; omega
        · have hc : c ∈ cl (v ++ _) := hc
          rw [cl_app] at hc
          rcases List.mem_append.mp hc with h | h
          · exact hv1.2 c h
          · have := hd9 c h
            unfold SgOk
            omega
    case rest =>
    refine ⟨_, rfl, rfl, _, rfl, iteB ?_ ?_⟩
    · refine ⟨line10 (by decide), fun p np => ⟨_, rfl, _, rfl, b, l, 13, rfl, box_new hB1 np, by decide, by decide, fun r H2 r0 r1 hB2 x2 => ?_⟩⟩
      obtain ⟨nb, nl⟩ := new_ne hB1 np
      have hp2 : H2 p = some (.lst (sV oddL)) := x2 p _ upd_same nb nl
      obtain ⟨v, hv, ev⟩ := pick (xs := oddL) (i := r) r0 r1
      exact ⟨p, _, _, .str v, rfl, rfl, SqL.of hp2, atI_map ev, k v H2 (odd_ok v hv) hB2 ((x1.trans (kb_new np)).trans x2)⟩
    refine ⟨_, rfl, line10 (by decide), fun p np => ⟨_, rfl, b, l, 2, rfl, box_new hB1 np, by decide, by decide, fun r H2 r0 r1 hB2 x2 => ?_⟩⟩
    obtain ⟨nb, nl⟩ := new_ne hB1 np
    have hp2 := x2 p _ upd_same nb nl
    have y2 := (x1.trans (kb_new np)).trans x2
    obtain ⟨m, hm, em⟩ := pick (xs := [(3 : Int), 10]) (i := r) r0 r1
    have hm2 : 0 < m ∧ m ≤ 10 := by
      simp only [List.mem_cons, List.not_mem_nil, or_false] at hm
      omega
    refine ⟨p, _, _, .int m, rfl, rfl, SqL.of hp2, atI_map (f := V.int) em, b, l, m, rfl, hB2, hm2.1, by omega, fun n H3 n0 n1 hB3 x3 => ⟨1, n, rfl, rfl, ?_⟩⟩
    have y3 := y2.trans x3
    refine ⟨_, rfl, _, _, rfl, rfl, _, rfl, iteB ?_ ?_⟩
    · refine ⟨⟨_, rfl⟩, _, rfl, 1 + n, rfl, by omega, by omega, fun D nD => lc_range (n := (1 + n).toNat) (fun i H' => OnesAt b l H D i H') ?_ ?_ ?_⟩
      · exact OnesAt.start hB3 y3 nD hB
      · rintro i H4 hi o
        refine ⟨rfl, _, rfl, b, l, 10, rfl, o.box, by decide, by decide, fun r4 H5 a0 a1 hB5 x5 => ?_⟩
        obtain ⟨c, hc, ec⟩ := pick (xs := cl "abcdefghij") (i := r4) a0 (by rw [abc_len]; exact a1)
        obtain ⟨acc, hacc, hl, o2⟩ := o.more (c := c) (sg_of (z := "abcdefghij") (by decide +kernel) c hc) hB5 x5
        exact ⟨_, r4, c, rfl, rfl, line10 (by decide +kernel), ec, acc, hacc, by omega, o2⟩
      · rintro H4 o
        obtain ⟨ys, hD, h1, h2, h3⟩ := o.done
        exact ⟨_, D, ys, rfl, rfl, .inl (SqL.of hD), by rw [h2, emp_len]; omega, k _ H4 (h3 (by omega)) o.box o.keep⟩
    · refine ⟨⟨_, rfl⟩, _, rfl, 1 + n, rfl, by omega, by omega, fun D nD => lc_range (n := (1 + n).toNat) (fun i H' => OnesAt b l H D i H') ?_ ?_ ?_⟩
      · exact OnesAt.start hB3 y3 nD hB
      · rintro i H4 hi o
        refine ⟨rfl, _, rfl, b, l, rfl, o.box, fun c H5 hc hB5 x5 => ?_⟩
        obtain ⟨acc, hacc, hl, o2⟩ := o.more (c := c) hc hB5 x5
        exact ⟨acc, hacc, by omega, o2⟩
      · rintro H4 o
        obtain ⟨ys, hD, h1, h2, h3⟩ := o.done
        exact ⟨_, D, ys, rfl, rfl, .inl (SqL.of hD), by rw [h2, emp_len]; omega, k _ H4 (h3 (by omega)) o.box o.keep⟩
end
end TG
namespace TG
open PySem L2 Gx
theorem new_old {b l p : Addr} {H H1 : Hp} (x : KB b l H H1) (hB : BoxAt H1 b l) (n : H1 p = none) : H p = none := by
  obtain ⟨d1, d2⟩ := new_ne hB n
  cases e : H p with
  | none => rfl
  | some o => rw [x p o e d1 d2] at n; cases n
/-- a list of cells at D -/
structure StrsAt (b l : Addr) (H : Hp) (D : Addr) (i : Nat) (H' : Hp) : Prop where
  box : BoxAt H' b l
  keep : KB b l H H'
  nD : H D = none
  db : D ≠ b
  dl : D ≠ l
  zsat : ∃ zs : List Str, zs.length = i ∧ (∀ z ∈ zs, CellOk z) ∧ H' D = some (.lst (sV zs))
theorem StrsAt.start {b l : Addr} {H H1 : Hp} {D : Addr} (hB : BoxAt H1 b l) (x : KB b l H H1) (n : H1 D = none) : StrsAt b l H D 0 (upd H1 D (.lst [])) := by
  obtain ⟨d1, d2⟩ := new_ne hB n
  have nD := new_old x hB n
  exact ⟨box_new hB n, kb_upd x nD, nD, d1, d2, [], rfl, fun c h => by simp at h, upd_same⟩
theorem StrsAt.more {b l : Addr} {H H1 H2 : Hp} {D : Addr} {i : Nat} {z : Str} (o : StrsAt b l H D i H1) (hc : CellOk z) (hB : BoxAt H2 b l) (x : KB b l H1 H2) :
    ∃ acc, H2 D = some (.lst acc) ∧ acc.length = i ∧ StrsAt b l H D (i + 1) (upd H2 D (.lst (acc ++ [.str z]))) := by
  obtain ⟨zs, h1, h2, h3⟩ := o.zsat
  refine ⟨_, x D _ h3 o.db o.dl, by rw [List.length_map, h1], box_upd hB o.db o.dl, kb_upd (o.keep.trans x) o.nD, o.nD, o.db, o.dl, zs ++ [z], by rw [List.length_append, h1]; rfl, fun d hd => ?_, ?_⟩
  · rcases List.mem_append.mp hd with h | h
    · exact h2 d h
    · rw [List.mem_singleton.mp h]; exact hc
  · rw [upd_same]
    simp [sV]
/-- a list of numbers at D, below m -/
structure IntsAt (b l : Addr) (H : Hp) (D : Addr) (i : Nat) (H' : Hp) : Prop where
  box : BoxAt H' b l
  keep : KB b l H H'
  nD : H D = none
  db : D ≠ b
  dl : D ≠ l
  isat : ∃ zs : List Int, zs.length = i ∧ H' D = some (.lst (zs.map V.int))
theorem IntsAt.start {b l : Addr} {H H1 : Hp} {D : Addr} (hB : BoxAt H1 b l) (x : KB b l H H1) (n : H1 D = none) : IntsAt b l H D 0 (upd H1 D (.lst [])) := by
  obtain ⟨d1, d2⟩ := new_ne hB n
  have nD := new_old x hB n
  exact ⟨box_new hB n, kb_upd x nD, nD, d1, d2, [], rfl, upd_same⟩
theorem IntsAt.more {b l : Addr} {H H1 H2 : Hp} {D : Addr} {i : Nat} {z : Int} (o : IntsAt b l H D i H1) (hB : BoxAt H2 b l) (x : KB b l H1 H2) :
    ∃ acc, H2 D = some (.lst acc) ∧ acc.length = i ∧ IntsAt b l H D (i + 1) (upd H2 D (.lst (acc ++ [.int z]))) := by
  obtain ⟨zs, h1, h3⟩ := o.isat
  refine ⟨_, x D _ h3 o.db o.dl, by rw [List.length_map, h1], box_upd hB o.db o.dl, kb_upd (o.keep.trans x) o.nD, o.nD, o.db, o.dl, zs ++ [z], by rw [List.length_append, h1]; rfl, ?_⟩
  rw [upd_same]
  simp
theorem ixm1 {n : Nat} : ixN (n + 1) (-1) = some n := by
  unfold ixN
  rw [if_neg (by decide), if_pos (by omega)]
  congr 1
  omega
theorem atm1 {α : Type} {xs : List α} {n : Nat} {v : α} (hl : xs.length = n + 1) (h : xs[n]? = some v) : atI xs (-1) = some v := by
  unfold atI
  rw [hl, ixm1]
  exact h
/-- rows' tuples -/
def RowsP (H : Hp) (as : List Addr) : Prop := ∀ p ∈ as, ∃ r, H p = some (.tup (sV r)) ∧ RowOk r
theorem RowsP.keep {H H' : Hp} {as : List Addr} (x : RowsP H as) (k : ∀ p xs, H p = some (.tup xs) → H' p = some (.tup xs)) : RowsP H' as := fun p hp => by
  obtain ⟨r, h1, h2⟩ := x p hp
  exact ⟨r, k _ _ h1, h2⟩
theorem RowsP.page {H : Hp} : ∀ {as : List Addr}, RowsP H as → ∃ rows : List (List Str), as.length = rows.length ∧ (∀ (i : Nat) (p : Addr) (r : List Str), as[i]? = some p → rows[i]? = some r → H p = some (.tup (sV r))) ∧ ∀ r ∈ rows, RowOk r
  | [], _ => ⟨[], rfl, fun i p r h => by simp at h, fun r h => by simp at h⟩
  | a :: as, x => by
    obtain ⟨rows, h1, h2, h3⟩ := RowsP.page (as := as) fun p hp => x p (List.mem_cons_of_mem _ hp)
    obtain ⟨r, g1, g2⟩ := x a List.mem_cons_self
    refine ⟨r :: rows, by rw [List.length_cons, List.length_cons, h1], fun i p q e1 e2 => ?_, fun q hq => ?_⟩
    · cases i with
      | zero => cases e1; cases e2; exact g1
      | succ i => exact h2 i p q (by simpa using e1) (by simpa using e2)
    · rcases List.mem_cons.mp hq with z | z
      · rw [z]; exact g2
      · exact h3 q z
theorem kb_tup {b l : Addr} {H H' : Hp} (x : KB b l H H') (hB : BoxAt H b l) : ∀ p xs, H p = some (.tup xs) → H' p = some (.tup xs) := fun p xs h => by
  obtain ⟨ns, st, h1, h2, _⟩ := hB
  exact x p _ h (ne_of h h1 fun z => by cases z) (ne_of h h2 fun z => by cases z)
section
variable {P : Program} {w : World} {K : PySem.W.Frag} {mg : Str → Option Value} {base : Heap} {cs : List (Addr × Addr)}
def spRowD : Sp := fun vs H Q _ => ∃ (b l sr : Addr) (ss : List Int) (m : Int), vs = [.ref b, .ref sr, .int m] ∧ BoxAt H b l ∧ H sr = some (.lst (ss.map V.int)) ∧ ss.length = 6 ∧ sr ≠ b ∧ sr ≠ l ∧ 1 ≤ m ∧ m ≤ 6 ∧
  ∀ (p : Addr) (r : List Str) (H' : Hp), BoxAt H' b l → KB b l H H' → H p = none → H' p = some (.tup (sV r)) → RowOk r → Q (.ref p) H'
abbrev nmRow : List Str := ["_law_box", "_law_sorts", "_law_many", "_law_k"]
theorem sc_lrow : FnScope nmRow ["_law_box", "_law_sorts", "_law_many"] (defScope s_row) := ⟨rfl, rfl, rfl, by decide +kernel, rfl, by decide +kernel, by decide +kernel⟩
theorem ok_lrow {f g : Addr} {fd fdg : FuncData} (T : Txt mg) (F : Fun K "_law_row" "_law_row" s_row f fd)
    (G : FnOk P w K mg base CX0 3 g fdg ["_law_box", "_law_sort"] spCell) (kp : PySem.W.keepIn K (.ref g) = true) (bd : Binds K fdg ["_law_box", "_law_sort"] []) (mgg : mg "_law_cell" = some (.ref g)) : FnOk P w K mg base CX0 4 f fd ["_law_box", "_law_sorts", "_law_many"] spRowD := by
  refine F.ok sc_lrow (fun vs H Q E h => ?_) (fun cdv A outer s H vs Q E hr h => ?_)
  · obtain ⟨b, l, sr, ss, m, rfl, _⟩ := h
    rfl
  · obtain ⟨b, l, sr, ss, m, rfl, hB, hs, h6, sb, sl, m1, m6, k⟩ := h
    have nd := sc_lrow.nd
    have szl : (1000 : Nat) < sizeLine := by decide
    refine ⟨_, pss_one (ps_ret (pe_callTy call_tuple_of (by rfl) T.tuple (by decide +kernel) (pa_cons (pe_lc (own := [("_law_k", 3)]) (g := gName 3) (tt := tYes) rfl nd (pi_range1 (by rfl) T.range (pa_cons (pv 2) pa_nil)) (blkOk_by (own := [("_law_k", 3)]) (N := nmRow) (sc := defScope s_row) (by decide +kernel))
          (fun _ _ _ _ _ => pg_name (i := 3) nd rfl (Or.inl rfl)) (fun _ _ _ _ _ => pts_nil) (fun s1 H1 C1 cl1 fp1 => pe_call G hr (by rfl) mgg kp bd .nil pass0 (pa_cons (pv 0) (pa_cons (pe_ix (r := rIxL K) ix_list (pv 1) (pv 3) (fun _ _ => rfl)) pa_nil)))) pa_nil))), ?_⟩
    refine ⟨_, rfl, m, rfl, by omega, by omega, fun D nD => lc_range (n := m.toNat) (fun i H' => StrsAt b l H D i H') (StrsAt.start hB KB.refl nD) ?_ ?_⟩
    · rintro i H1 hi o
      obtain ⟨sv, hsv⟩ := getP (xs := ss) (i := i) (by omega)
      have hs1 := o.keep sr _ hs sb sl
      refine ⟨rfl, _, rfl, _, rfl, _, rfl, sr, _, _, .int sv, rfl, rfl, SqL.of hs1, by rw [Int.zero_add]; exact atI_nat (by rw [List.getElem?_map, hsv]; rfl), b, l, sv, rfl, o.box, fun z H2 hz hB2 x2 => ?_⟩
      obtain ⟨acc, hacc, hl, o2⟩ := o.more hz hB2 x2
      exact ⟨acc, hacc, by omega, o2⟩
    · rintro H1 o
      obtain ⟨zs, h1, h2, h3⟩ := o.zsat
      refine ⟨D, _, rfl, .inl ⟨SqL.of h3, fun p np => k p zs _ (box_new o.box np) (o.keep.trans (kb_new np)) (new_old o.keep o.box np) upd_same ⟨by omega, by omega, h2⟩⟩⟩
def spPageD : Sp := fun vs H Q _ => ∃ (b l : Addr) (m : Int), vs = [.ref b, .int m] ∧ BoxAt H b l ∧ 1 ≤ m ∧ m ≤ 30 ∧
  ∀ (p : Addr) (as : List Addr) (rows : List (List Str)) (H' : Hp), BoxAt H' b l → KB b l H H' → H p = none → p ≠ b → p ≠ l → H' p = some (.lst (as.map V.ref)) → as.length = rows.length → (∀ (i : Nat) (q : Addr) (r : List Str), as[i]? = some q → rows[i]? = some r → H' q = some (.tup (sV r))) → PgOk rows → Q (.ref p) H'
abbrev nmPage : List Str := ["_law_box", "_law_most", "_law_sorts", "_law_many", "_law_rows", "_law_turn", "_law_way", "_law_k"]
theorem sc_lpage : FnScope nmPage ["_law_box", "_law_most"] (defScope s_page) := ⟨rfl, rfl, rfl, by decide +kernel, rfl, by decide +kernel, by decide +kernel⟩
theorem ok_lpage {f g g2 : Addr} {fd fdg fd2 : FuncData} (T : Txt mg) (F : Fun K "_law_page" "_law_page" s_page f fd)
    (G : FnOk P w K mg base CX0 1 g fdg ["_law_box", "_law_many"] spTake) (kp : PySem.W.keepIn K (.ref g) = true) (bd : Binds K fdg ["_law_box", "_law_many"] []) (mgg : mg "_law_take" = some (.ref g))
    (G2 : FnOk P w K mg base CX0 4 g2 fd2 ["_law_box", "_law_sorts", "_law_many"] spRowD) (kp2 : PySem.W.keepIn K (.ref g2) = true) (bd2 : Binds K fd2 ["_law_box", "_law_sorts", "_law_many"] []) (mg2 : mg "_law_row" = some (.ref g2)) : FnOk P w K mg base CX0 5 f fd ["_law_box", "_law_most"] spPageD := by
  refine F.ok sc_lpage (fun vs H Q E h => ?_) (fun cdv A outer s H vs Q E hr h => ?_)
  · obtain ⟨b, l, m, rfl, _⟩ := h
    rfl
  · obtain ⟨b, l, m, rfl, hB, m1, m30, k⟩ := h
    have nd := sc_lpage.nd
    have szl : (1000 : Nat) < sizeLine := by decide
    have hr1 : Room 1 _ := hr.mono (by decide)
    refine ⟨_, pss_cons (ps_setLc (i := 2) (own := [("_law_k", 7)]) (g := gName 7) rfl nd rfl rfl (sw_true rfl rfl rfl (by decide +kernel)) (pi_range1 (by rfl) T.range (pa_cons pe_int pa_nil)) (blkOk_by (own := [("_law_k", 7)]) (N := nmPage) (sc := defScope s_page) (by decide +kernel))
          (fun _ _ _ _ _ => pg_name (i := 7) nd rfl (Or.inl rfl)) (fun _ _ _ _ _ => pts_nil) (fun s1 H1 C1 cl1 fp1 => pe_call G hr1 (by rfl) mgg kp bd .nil pass0 (pa_cons (pv 0) (pa_cons pe_int pa_nil))))
      (pss_cons (ps_par (i := 3) (j := 4) rfl nd rfl rfl (by decide) rfl rfl (pa_cons (pe_op op_add pe_int (pe_call G hr1 (by rfl) mgg kp bd .nil pass0 (pa_cons (pv 0) (pa_cons pe_int pa_nil)))) (pa_cons (pe_lst pa_nil) pa_nil)) (by rfl))
      (pss_cons (ps_for PassesOwn.never rfl (pi_range1 (by rfl) T.range (pa_cons (pe_op op_add pe_int (pe_call G hr1 (by rfl) mgg kp bd .nil pass0 (pa_cons (pv 0) (pa_cons (pv 1) pa_nil)))) pa_nil)) (pg_name (i := 5) nd rfl (.inl rfl))
        (pss_cons (ps_set (i := 6) nd rfl (.inl rfl) (pe_call G hr1 (by rfl) mgg kp bd .nil pass0 (pa_cons (pv 0) (pa_cons pe_int pa_nil))))
        (pss_cons (ps_set (i := 3) nd rfl (.inl rfl) (pe_ix ix_list (pe_lst (pa_cons (pe_op op_add pe_int (pe_call G hr1 (by rfl) mgg kp bd .nil pass0 (pa_cons (pv 0) (pa_cons pe_int pa_nil)))) (pa_cons (pe_callB (call_max2 rfl) (by rfl) T.max (by decide +kernel) (pa_cons pe_int (pa_cons (pe_op op_sub (pv 3) pe_int) pa_nil)))
            (pa_cons (pe_callB (call_min2 rfl) (by rfl) T.min (by decide +kernel) (pa_cons pe_int (pa_cons (pe_op op_add (pv 3) pe_int) pa_nil))) (pa_cons (pv 3) pa_nil))))) (pe_callB (call_min2 rfl) (by rfl) T.min (by decide +kernel) (pa_cons (pv 6) (pa_cons pe_int pa_nil))) (fun _ _ => rfl)))
        (pss_cons (ps_expr (pe_bm PySem.F.plainAttrs_list PySem.F.slot_list_append PySem.F.type_list_append mt_append (pv 4) (pa_cons (pe_call G2 hr (by rfl) mg2 kp2 bd2 .nil pass0 (pa_cons (pv 0) (pa_cons (pv 2) (pa_cons (pv 3) pa_nil)))) pa_nil)))
        (pss_one (ps_if (pt_cmpR op_eq (pv 6) pe_int (nomark _))
          (pss_cons (ps_asg (pe_ix ix_list (pv 4) (pe_call G hr1 (by rfl) mgg kp bd .nil pass0 (pa_cons (pv 0) (pa_cons (pe_callB call_len_seq (by rfl) T.len PySem.boot_len (pa_cons (pv 4) pa_nil)) pa_nil))) (fun _ _ => rfl)) (pg_sub (pv 4) (pe_un un_neg pe_int) set_list))
          (pss_one (ps_set (i := 3) nd rfl (.inl rfl) (pe_callB call_len_seq (by rfl) T.len PySem.boot_len (pa_cons (pe_ix ix_list (pv 4) (pe_un un_neg pe_int) (fun _ _ => rfl)) pa_nil))))) pss_nil))))))
      (pss_one (ps_ret (pv 4))))), ?_⟩
    refine ⟨6, rfl, by decide, by decide, fun sr nsr => lc_range (n := 6) (fun i H' => IntsAt b l H sr i H') (IntsAt.start hB KB.refl nsr) ?_ ?_⟩
    · rintro i H1 hi o
      refine ⟨rfl, _, rfl, b, l, 2, rfl, o.box, by decide, by decide, fun r H2 r0 r1 hB2 x2 => ?_⟩
      obtain ⟨acc, hacc, hl, o2⟩ := o.more (z := r) hB2 x2
      exact ⟨acc, hacc, by omega, o2⟩
    rintro H1 ⟨hB1, x1, nsr, sb, sl, ss, h6, hs1⟩
    refine ⟨_, rfl, b, l, 6, rfl, hB1, by decide, by decide, fun m0 H2 a0 a1 hB2 x2 => ⟨1, m0, rfl, rfl, small0, fun lr nlr => ⟨_, _, rfl, ?_⟩⟩⟩
    have hs2 := x2 sr _ hs1 sb sl
    have y2 := x1.trans x2
    obtain ⟨lb, ll⟩ := new_ne hB2 nlr
    have lrs : lr ≠ sr := fun z => by rw [z, hs2] at nlr; cases nlr
    have nlr0 := new_old y2 hB2 nlr
    refine ⟨_, rfl, _, rfl, b, l, m, rfl, box_new hB2 nlr, by omega, by omega, fun tt H4 t0 t1 hB4 x4 => ⟨1, tt, rfl, rfl, 1 + tt, rfl, by omega, by omega, ?_⟩⟩
    have hs4 : H4 sr = some (.lst (ss.map V.int)) := x4 sr _ (by rw [upd_ne lrs.symm]; exact hs2) sb sl
    have y4 := (y2.trans (kb_new nlr)).trans x4
    have hl4 : H4 lr = some (.lst []) := x4 lr _ upd_same lb ll
    refine for_range (n := (1 + tt).toNat) (fun i σ H' => ∃ (mm : Int) (as : List Addr) (c5 c6 : Option V), σ = [some (.ref b), some (.int m), some (.ref sr), some (.int mm), some (.ref lr), c5, c6, none] ∧ 1 ≤ mm ∧ mm ≤ 6 ∧ BoxAt H' b l ∧ KB b l H H' ∧ H' sr = some (.lst (ss.map V.int)) ∧ H' lr = some (.lst (as.map V.ref)) ∧ as.length = i ∧ RowsP H' as)
      ⟨1 + m0, [], none, none, rfl, by omega, by omega, hB4, y4, hs4, hl4, rfl, fun p h => by simp at h⟩ ?_ ?_
    · rintro i σ H5 hi ⟨mm, as, c5, c6, rfl, mm1, mm6, hB5, y5, hs5, hl5, hlen, hR5⟩
      refine ⟨_, rfl, b, l, 8, rfl, hB5, by decide, by decide, fun way H6 w0 w1 hB6 x6 => ?_⟩
      refine ⟨_, rfl, b, l, 6, rfl, hB6, by decide, by decide, fun n6 H7 n0 n1 hB7 x7 => ⟨1, n6, rfl, rfl, _, rfl, mm, 1, rfl, rfl, 1, mm - 1, rfl, _, rfl, mm, 1, rfl, rfl, 6, mm + 1, rfl, _, rfl, line10 (by show 4 ≤ 1000; decide), fun q nq => ?_⟩⟩
      obtain ⟨mv, hmv, emv⟩ := pick (xs := [1 + n6, (if mm - 1 > 1 then mm - 1 else 1), (if mm + 1 < 6 then mm + 1 else 6), mm]) (i := if 3 < way then 3 else way) (by split <;> omega) (by show _ < (4 : Int); split <;> omega)
      have hmv2 : 1 ≤ mv ∧ mv ≤ 6 := by
        simp only [List.mem_cons, List.not_mem_nil, or_false] at hmv
        rcases hmv with h | h | h | h
        · omega
        · split at h <;> omega
        · split at h <;> omega
        · omega
      refine ⟨_, rfl, way, 3, rfl, q, _, _, .int mv, rfl, rfl, SqL.of upd_same, atI_map (f := V.int) emv, ?_⟩
      have y7 : KB b l H5 (upd H7 q (.lst (List.map V.int [1 + n6, (if mm - 1 > 1 then mm - 1 else 1), (if mm + 1 < 6 then mm + 1 else 6), mm]))) := (x6.trans x7).trans (kb_new nq)
      have hB8 := box_new (o := .lst (List.map V.int [1 + n6, (if mm - 1 > 1 then mm - 1 else 1), (if mm + 1 < 6 then mm + 1 else 6), mm])) hB7 nq
      have hl8 := y7 lr _ hl5 lb ll
      have hs8 := y7 sr _ hs5 sb sl
      refine ⟨_, rfl, .inl ⟨rfl, _, SqL.of hl8⟩, _, rfl, _, rfl, _, rfl, b, l, sr, ss, mv, rfl, hB8, hs8, h6, sb, sl, hmv2.1, hmv2.2, fun p r H9 hB9 x9 np hp hro => ?_⟩
      have hl9 := x9 lr _ hl8 lb ll
      have hs9 := x9 sr _ hs8 sb sl
      have plr : p ≠ lr := fun z => by rw [z, hl9] at hp; cases hp
      refine ⟨lr, _, .ref p, rfl, rfl, hl9, by rw [List.length_map]; omega, ?_⟩
      have el : as.map V.ref ++ [V.ref p] = (as ++ [p]).map V.ref := by simp
      rw [el]
      have y9 := kb_upd (o := .lst ((as ++ [p]).map V.ref)) (y5.trans (y7.trans x9)) nlr0
      have hB10 := box_upd (o := .lst ((as ++ [p]).map V.ref)) hB9 lb ll
      have hl10 : (upd H9 lr (.lst ((as ++ [p]).map V.ref))) lr = some (.lst ((as ++ [p]).map V.ref)) := upd_same
      have hs10 : (upd H9 lr (.lst ((as ++ [p]).map V.ref))) sr = some (.lst (ss.map V.int)) := by rw [upd_ne lrs.symm]; exact hs9
      have hR10 : RowsP (upd H9 lr (.lst ((as ++ [p]).map V.ref))) (as ++ [p]) := fun u hu => by
        rcases List.mem_append.mp hu with h | h
        · obtain ⟨r2, e1, e2⟩ := hR5 u h
          have e3 := kb_tup (y7.trans x9) hB5 u _ e1
          exact ⟨r2, by rw [upd_ne (fun z => by rw [z, hl9] at e3; cases e3)]; exact e3, e2⟩
        · rw [List.mem_singleton.mp h]
          exact ⟨r, by rw [upd_ne plr]; exact hp, hro⟩
      have hlen2 : (as ++ [p]).length = i + 1 := by rw [List.length_append, hlen]; rfl
      generalize (upd H9 lr (.lst ((as ++ [p]).map V.ref))) = H10 at y9 hB10 hl10 hs10 hR10 ⊢
      generalize as ++ [p] = as2 at hl10 hR10 hlen2 ⊢
      refine ⟨_, rfl, rfl, _, rfl, iteB ?_ ?_⟩
      · have ln : ((as2.map V.ref).length : Int) = ((i + 1 : Nat) : Int) := by rw [List.length_map, hlen2]
        refine ⟨_, rfl, _, rfl, _, rfl, lr, _, rfl, .inl (SqL.of hl10), b, l, _, rfl, hB10, by omega, by omega, fun j H11 j0 j1 hB11 x11 => ?_⟩
        have hl11 := x11 lr _ hl10 lb ll
        obtain ⟨u, hu, eu⟩ := pick (xs := as2) (i := j) j0 (by rw [hlen2]; omega)
        obtain ⟨r2, e1, e2⟩ := hR10 u hu
        have e3 := kb_tup x11 hB10 u _ e1
        have ulr : u ≠ lr := fun z => by rw [z, hl11] at e3; cases e3
        have ix : ixN (as2.map V.ref).length (-1) = some i := by rw [List.length_map, hlen2]; exact ixm1
        refine ⟨lr, _, j, .ref u, rfl, rfl, SqL.of hl11, atI_map eu, _, rfl, 1, rfl, lr, _, -1, i, rfl, rfl, hl11, ix, ?_⟩
        have es : (as2.map V.ref).set i (V.ref u) = (as2.set i u).map V.ref := by rw [List.map_set]
        rw [es]
        have gu : (as2.set i u)[i]? = some u := List.getElem?_set_self (by omega)
        have hs11 := x11 sr _ hs10 sb sl
        refine ⟨_, rfl, 1, rfl, lr, _, -1, .ref u, rfl, rfl, SqL.of upd_same, atm1 (n := i) (by rw [List.length_map, List.length_set, hlen2]) (by rw [List.getElem?_map, gu]; rfl), u, _, rfl, .inr (SqT.of (by rw [upd_ne ulr]; exact e3)), ?_⟩
        have l1 := e2.pos
        have l2 := e2.len
        have lr2 : (sV r2).length = r2.length := List.length_map ..
        refine ⟨_, as2.set i u, _, _, rfl, by omega, by omega, box_upd hB11 lb ll, kb_upd (y9.trans x11) nlr0, by rw [upd_ne lrs.symm]; exact hs11, upd_same, by rw [List.length_set, hlen2], fun v hv => ?_⟩
        rcases List.mem_or_eq_of_mem_set hv with h | h
        · obtain ⟨r3, f1, f2⟩ := hR10 v h
          have f3 := kb_tup x11 hB10 v _ f1
          exact ⟨r3, by rw [upd_ne (fun z => by rw [z, hl11] at f3; cases f3)]; exact f3, f2⟩
        · rw [h]
          exact ⟨r2, by rw [upd_ne ulr]; exact e3, e2⟩
      · exact ⟨_, as2, _, _, rfl, hmv2.1, hmv2.2, hB10, y9, hs10, hl10, hlen2, hR10⟩
    · rintro σ H5 ⟨mm, as, c5, c6, rfl, mm1, mm6, hB5, y5, hs5, hl5, hlen, hR5⟩
      obtain ⟨rows, g1, g2, g3⟩ := hR5.page
      exact ⟨_, rfl, k lr as rows H5 hB5 y5 nlr0 lb ll hl5 g1 g2 ⟨by omega, by omega, g3⟩⟩
def spStyleD : Sp := fun vs H Q _ => ∃ (b l : Addr), vs = [.ref b] ∧ BoxAt H b l ∧
  ∀ (p : Addr) (gap least : Int) (H' : Hp), BoxAt H' b l → KB b l H H' → H p = none → H' p = some (.tup [.int gap, .int least]) → 0 ≤ gap → gap ≤ 4 → 0 ≤ least → least ≤ 12 → Q (.ref p) H'
theorem sc_lstyle : FnScope ["_law_box", "_law_gap"] ["_law_box"] (defScope s_style) := ⟨rfl, rfl, rfl, by decide +kernel, rfl, by decide +kernel, by decide +kernel⟩
theorem ok_lstyle {f g : Addr} {fd fdg : FuncData} (F : Fun K "_law_style" "_law_style" s_style f fd)
    (G : FnOk P w K mg base CX0 1 g fdg ["_law_box", "_law_many"] spTake) (kp : PySem.W.keepIn K (.ref g) = true) (bd : Binds K fdg ["_law_box", "_law_many"] []) (mgg : mg "_law_take" = some (.ref g)) : FnOk P w K mg base CX0 2 f fd ["_law_box"] spStyleD := by
  refine F.ok sc_lstyle (fun vs H Q E h => ?_) (fun cdv A outer s H vs Q E hr h => ?_)
  · obtain ⟨b, l, rfl, _⟩ := h
    rfl
  · obtain ⟨b, l, rfl, hB, k⟩ := h
    have nd := sc_lstyle.nd
    refine ⟨_, pss_cons (ps_set (i := 1) nd rfl (.inl rfl) (pe_ix ix_list (pe_lst (pa_cons (pe_call G hr (by rfl) mgg kp bd .nil pass0 (pa_cons (pv 0) (pa_cons pe_int pa_nil))) (pa_cons pe_int (pa_cons pe_int pa_nil)))) (pe_call G hr (by rfl) mgg kp bd .nil pass0 (pa_cons (pv 0) (pa_cons pe_int pa_nil))) (fun _ _ => rfl)))
      (pss_one (ps_ret (pe_tup (pa_cons (pv 1) (pa_cons (pe_ix ix_list (pe_lst (pa_cons pe_int (pa_cons (pe_call G hr (by rfl) mgg kp bd .nil pass0 (pa_cons (pv 0) (pa_cons pe_int pa_nil))) (pa_cons (pe_call G hr (by rfl) mgg kp bd .nil pass0 (pa_cons (pv 0) (pa_cons pe_int pa_nil))) pa_nil))))
        (pe_call G hr (by rfl) mgg kp bd .nil pass0 (pa_cons (pv 0) (pa_cons pe_int pa_nil))) (fun _ _ => rfl)) pa_nil))))), ?_⟩
    refine ⟨_, rfl, b, l, 5, rfl, hB, by decide, by decide, fun g0 H1 a0 a1 hB1 x1 => ⟨line10 (by show 3 ≤ 1000; decide), fun p np => ⟨_, rfl, b, l, 3, rfl, box_new hB1 np, by decide, by decide, fun r H2 r0 r1 hB2 x2 => ?_⟩⟩⟩
    obtain ⟨nb, nl⟩ := new_ne hB1 np
    have hp := x2 p _ upd_same nb nl
    obtain ⟨gap, hg, eg⟩ := pick (xs := [g0, 1, 2]) (i := r) r0 r1
    have hg2 : 0 ≤ gap ∧ gap ≤ 4 := by
      simp only [List.mem_cons, List.not_mem_nil, or_false] at hg
      omega
    have y2 := (x1.trans (kb_new np)).trans x2
    refine ⟨p, _, _, .int gap, rfl, rfl, SqL.of hp, atI_map (f := V.int) eg, ?_⟩
    refine ⟨_, rfl, _, rfl, b, l, 13, rfl, hB2, by decide, by decide, fun l1 H3 b0 b1 hB3 x3 => ⟨_, rfl, b, l, 13, rfl, hB3, by decide, by decide, fun l2 H4 c0 c1 hB4 x4 => ⟨line10 (by show 3 ≤ 1000; decide), fun q nq => ⟨_, rfl, b, l, 3, rfl, box_new hB4 nq, by decide, by decide, fun r2 H5 s0 s1 hB5 x5 => ?_⟩⟩⟩⟩
    obtain ⟨nb2, nl2⟩ := new_ne hB4 nq
    have hq := x5 q _ upd_same nb2 nl2
    obtain ⟨least, hl, el⟩ := pick (xs := [0, l1, l2]) (i := r2) s0 s1
    have hl2 : 0 ≤ least ∧ least ≤ 12 := by
      simp only [List.mem_cons, List.not_mem_nil, or_false] at hl
      omega
    have y5 := (((y2.trans x3).trans x4).trans (kb_new nq)).trans x5
    exact ⟨q, _, _, .int least, rfl, rfl, SqL.of hq, atI_map (f := V.int) el, line10 (by show 2 ≤ 1000; decide), fun t nt => k t gap least _ (box_new hB5 nt) (y5.trans (kb_new nt)) (new_old y5 hB5 nt) upd_same hg2.1 hg2.2 hl2.1 hl2.2⟩
end
end TG
namespace TG
open PySem L2 Gx
theorem same_refl {H : Hp} : Same H H := fun _ _ h => h
theorem same_trans {H H1 H2 : Hp} (a : Same H H1) (b : Same H1 H2) : Same H H2 := fun c o h => b c o (a c o h)
theorem same_new {H : Hp} {p : Addr} {o : HO} (n : H p = none) : Same H (upd H p o) := fun c u h => by rw [upd_ne (ne_of_none h n)]; exact h
theorem same_upd {H H' : Hp} {p : Addr} {o : HO} (x : Same H H') (n : H p = none) : Same H (upd H' p o) := fun c u h => by rw [upd_ne (ne_of_none h n)]; exact x c u h
theorem same_sqL {K : PySem.W.Frag} {H H' : Hp} {a : Addr} {xs : List V} (e : Same H H') (h : SqL K H a xs) : SqL K H' a xs := by
  rcases h with (z | ⟨o, z⟩) | z
  · exact .inl (.inl (e _ _ z))
  · exact .inl (.inr ⟨o, e _ _ z⟩)
  · exact .inr z
theorem same_sqT {K : PySem.W.Frag} {H H' : Hp} {a : Addr} {xs : List V} (e : Same H H') (h : SqT K H a xs) : SqT K H' a xs := by
  rcases h with (z | ⟨o, z⟩) | z
  · exact .inl (.inl (e _ _ z))
  · exact .inl (.inr ⟨o, e _ _ z⟩)
  · exact .inr z
theorem PageAt.same {K : PySem.W.Frag} {H H' : Hp} {a : Addr} {as : List Addr} {rows : List (List Str)} (p : PageAt K H a as rows) (e : Same H H') : PageAt K H' a as rows :=
  ⟨same_sqL e p.lst, p.len, fun i q r h1 h2 => same_sqT e (p.row i q r h1 h2)⟩
theorem same_old {H H' : Hp} {p : Addr} (e : Same H H') (n : H' p = none) : H p = none := by
  cases q : H p with
  | none => rfl
  | some o => rw [e _ _ q] at n; cases n
theorem canAll_strs : ∀ {zs : List Str}, (∀ z ∈ zs, ∀ c ∈ cl z, SgOk c) → PyData.canLayAll0 (zs.map PyData.str) = true
  | [], _ => rfl
  | z :: zs, h => by
    rw [List.map_cons]
    simp only [PyData.canLayAll0, PyData.canLay0, Bool.and_eq_true]
    refine ⟨?_, canAll_strs fun y hy => h y (List.mem_cons_of_mem _ hy)⟩
    unfold PyData.strOk
    rw [← Array.all_toList, List.all_eq_true]
    intro c hc
    have := h z List.mem_cons_self c hc
    unfold SgOk at this
    exact decide_eq_true (by omega)
theorem depthAll_strs : ∀ zs : List Str, PyData.depthAll (zs.map PyData.str) = 0
  | [] => rfl
  | _ :: r => by simp [PyData.depthAll, PyData.depth, depthAll_strs r]
theorem dp_strs {K : PySem.W.Frag} {H : Hp} : ∀ zs : List Str, DpAll K H (sV zs) (zs.map PyData.str)
  | [] => .nil
  | z :: zs => .cons (.str z) (dp_strs zs)
section
variable {P : Program} {w : World} {K : PySem.W.Frag} {mg : Str → Option Value} {base : Heap} {cs : List (Addr × Addr)}
end
end TG
namespace TG
open PySem L2 Gx
def loB (rows : List (List Str)) (c : Nat) : Nat → Nat
  | 0 => 0
  | i + 1 => if clB rows c i = true then loB rows c i else i + 1
theorem lo_eq {rows : List (List Str)} {c i : Nat} : (loB rows c i = i) ↔ (i = 0 ∨ clB rows c (i - 1) = false) := by
  have le : ∀ j, loB rows c j ≤ j := by
    intro j
    induction j with
    | zero => exact Nat.le_refl _
    | succ j ih =>
      show (if clB rows c j = true then loB rows c j else j + 1) ≤ j + 1
      split
      · omega
      · omega
  cases i with
  | zero => exact ⟨fun _ => .inl rfl, fun _ => rfl⟩
  | succ i =>
    rw [Nat.add_sub_cancel]
    show (if clB rows c i = true then loB rows c i else i + 1) = i + 1 ↔ _
    have := le i
    by_cases h : clB rows c i = true
    · rw [if_pos h, h]
      constructor
      · intro q; omega
      · intro q
        rcases q with q | q
        · omega
        · cases q
    · rw [if_neg h]
      constructor
      · intro _; exact .inr (by cases q : clB rows c i with
          | true => exact absurd q h
          | false => rfl)
      · intro _; rfl
section
variable {P : Program} {w : World} {K : PySem.W.Frag} {mg : Str → Option Value} {base : Heap} {cs : List (Addr × Addr)}
end
end TG
namespace TG
open PySem L2 Gx
theorem st_cl {rows : List (List Str)} {c i : Nat} (h : stB rows c i = true) : clB rows c i = true ∧ loB rows c i = i ∧ hiB rows c (i + 1) = hiB rows c i ∧ i < hiB rows c i ∧ hiB rows c i ≤ rows.length ∧ ∀ j, i ≤ j → j < hiB rows c i → clB rows c j = true := by
  unfold stB at h
  obtain ⟨h1, h2⟩ := Bool.and_eq_true_iff.mp h
  refine ⟨h1, lo_eq.mpr ?_, (hi_yes h1).symm, ?_, hi_le (Nat.le_of_lt (cl_lt h1)), fun j h3 h4 => hi_in (j - i) i j (by omega) h4⟩
  · rcases Bool.or_eq_true_iff.mp h2 with q | q
    · exact .inl (of_decide_eq_true q)
    · exact .inr (by simpa using q)
  · rw [hi_yes h1]; exact hi_ge rows c (i + 1)
end TG
namespace TG
open PySem L2 Gx
theorem lo_le (rows : List (List Str)) (c : Nat) : ∀ i, loB rows c i ≤ i
  | 0 => Nat.le_refl _
  | i + 1 => by
    show (if clB rows c i = true then loB rows c i else i + 1) ≤ i + 1
    have := lo_le rows c i
    split <;> omega
theorem lo_in {rows : List (List Str)} {c : Nat} : ∀ {i j : Nat}, loB rows c i ≤ j → j < i → clB rows c j = true
  | 0, j, _, h => absurd h (Nat.not_lt_zero _)
  | i + 1, j, h1, h2 => by
    have h1 : (if clB rows c i = true then loB rows c i else i + 1) ≤ j := h1
    split at h1
    · rename_i q
      by_cases e : j = i
      · rw [e]; exact q
      · exact lo_in h1 (by omega)
    · omega
theorem st_lo {rows : List (List Str)} {c i : Nat} (h : clB rows c i = true) : stB rows c (loB rows c i) = true := by
  have h1 := lo_le rows c i
  have h2 : clB rows c (loB rows c i) = true := by
    by_cases e : loB rows c i = i
    · rw [e]; exact h
    · exact lo_in (Nat.le_refl _) (by omega)
  unfold stB
  rw [h2, Bool.true_and]
  have h3 : loB rows c i = 0 ∨ clB rows c (loB rows c i - 1) = false := by
    clear h h2 h1
    induction i with
    | zero => exact .inl rfl
    | succ i ih =>
      show (if clB rows c i = true then loB rows c i else i + 1) = 0 ∨ clB rows c ((if clB rows c i = true then loB rows c i else i + 1) - 1) = false
      by_cases q : clB rows c i = true
      · rw [if_pos q]; exact ih
      · rw [if_neg q, Nat.add_sub_cancel]
        exact .inr (by simpa using q)
  rcases h3 with q | q
  · rw [decide_eq_true q, Bool.true_or]
  · rw [q, Bool.not_false, Bool.or_true]
theorem hi_down {rows : List (List Str)} {c x : Nat} : ∀ {d : Nat}, (∀ j, x ≤ j → j < x + d → clB rows c j = true) → hiB rows c x = hiB rows c (x + d)
  | 0, _ => rfl
  | d + 1, h => by
    rw [hi_down (d := d) fun j h1 h2 => h j h1 (by omega), hi_yes (h (x + d) (by omega) (by omega)), Nat.add_assoc]
theorem hi_lo (rows : List (List Str)) (c i : Nat) : hiB rows c (loB rows c i) = hiB rows c i := by
  have h := lo_le rows c i
  obtain ⟨d, hd⟩ := Nat.exists_eq_add_of_le h
  have := hi_down (rows := rows) (c := c) (x := loB rows c i) (d := d) fun j h1 h2 => lo_in h1 (by omega)
  rw [this, ← hd]
theorem lo_same {rows : List (List Str)} {c x : Nat} (h : stB rows c x = true) : ∀ {d : Nat}, x + d < hiB rows c x → loB rows c (x + d) = x
  | 0, _ => (st_cl h).2.1
  | d + 1, hd => by
    show (if clB rows c (x + d) = true then loB rows c (x + d) else x + d + 1) = x
    rw [if_pos ((st_cl h).2.2.2.2.2 (x + d) (by omega) (by omega))]
    exact lo_same h (by omega)
/-- a closed cell's stretch -/
theorem cl_run {rows : List (List Str)} {c i : Nat} (h : clB rows c i = true) : loB rows c i ≤ i ∧ i < hiB rows c i ∧ hiB rows c (i + 1) = hiB rows c i ∧ hiB rows c i ≤ rows.length ∧ ∀ j, loB rows c i ≤ j → j < hiB rows c i → clB rows c j = true := by
  obtain ⟨_, _, _, _, h2, h3⟩ := st_cl (st_lo h)
  rw [hi_lo] at h2 h3
  refine ⟨lo_le rows c i, ?_, (hi_yes h).symm, h2, h3⟩
  rw [hi_yes h]
  exact hi_ge rows c (i + 1)
abbrev covB (i : Nat) (q : Nat × Nat × Nat) : Bool := decide (q.2.1 ≤ i ∧ i < q.2.2)
theorem filter_one {p : Nat → Bool} {a : Nat} (h : ∀ x, p x = decide (x = a)) : ∀ n, (List.range n).filter p = if a < n then [a] else [] := by
  intro n
  induction n with
  | zero => simp
  | succ n ih =>
    rw [List.range_succ, List.filter_append, ih]
    by_cases e : n = a
    · subst e
      rw [if_neg (Nat.lt_irrefl _), if_pos (Nat.lt_succ_self _), List.filter_cons_of_pos (by rw [h]; exact decide_eq_true rfl)]
      rfl
    · rw [List.filter_cons_of_neg (by rw [h, decide_eq_false e]; exact Bool.false_ne_true), List.filter_nil, List.append_nil]
      by_cases q : a < n
      · rw [if_pos q, if_pos (by omega)]
      · rw [if_neg q, if_neg (by omega)]
theorem col_cov (rows : List (List Str)) (c i : Nat) : (ofCol rows c).filter (covB i) = if clB rows c i = true then [(c, loB rows c i, hiB rows c i)] else [] := by
  unfold ofCol runsB
  rw [List.map_map, List.filter_map]
  rw [List.filter_filter]
  by_cases h : clB rows c i = true
  · rw [if_pos h]
    have hp : ∀ x, (((covB i) ∘ ((fun p : Nat × Nat => (c, p.1, p.2)) ∘ fun i => (i, hiB rows c i))) x && stB rows c x) = decide (x = loB rows c i) := fun x => by
      rw [Bool.eq_iff_iff, Bool.and_eq_true, decide_eq_true_eq]
      constructor
      · rintro ⟨h1, h2⟩
        obtain ⟨h3, h4⟩ := of_decide_eq_true h1
        have h3 : x ≤ i := h3
        have h4 : i < hiB rows c x := h4
        obtain ⟨d, hd⟩ := Nat.exists_eq_add_of_le h3
        rw [hd]
        exact (lo_same h2 (by omega)).symm
      · intro e
        subst e
        obtain ⟨h1, h2, _⟩ := cl_run h
        refine ⟨decide_eq_true ⟨h1, ?_⟩, st_lo h⟩
        show i < hiB rows c (loB rows c i)
        rw [hi_lo]; exact h2
    rw [filter_one hp, if_pos (Nat.lt_of_le_of_lt (lo_le rows c i) (cl_lt h))]
    show [(c, loB rows c i, hiB rows c (loB rows c i))] = _
    rw [hi_lo]
  · rw [if_neg h]
    have : List.filter (fun x => ((covB i) ∘ ((fun p : Nat × Nat => (c, p.1, p.2)) ∘ fun i => (i, hiB rows c i))) x && stB rows c x) (List.range rows.length) = [] := by
      refine List.filter_eq_nil_iff.mpr fun x _ q => ?_
      obtain ⟨h1, h2⟩ := Bool.and_eq_true_iff.mp q
      obtain ⟨h3, h4⟩ := of_decide_eq_true h1
      have h3 : x ≤ i := h3
      have h4 : i < hiB rows c x := h4
      exact h ((st_cl h2).2.2.2.2.2 i h3 h4)
    rw [this]
    rfl
/-- how many cells of row i are closed -/
def ncl (rows : List (List Str)) (i : Nat) : Nat := match rows[i]? with
  | some r => r.length - 1
  | none => 0
theorem cl_ncl (rows : List (List Str)) (c i : Nat) : clB rows c i = decide (c < ncl rows i) := by
  unfold clB ncl
  cases rows[i]? with
  | none => exact (decide_eq_false (Nat.not_lt_zero _)).symm
  | some r =>
    show decide (c + 1 < r.length) = decide (c < r.length - 1)
    exact decide_eq_decide.mpr (by omega)
def entOf (rows : List (List Str)) (i c : Nat) : Nat × Nat × Nat := (c, loB rows c i, hiB rows c i)
theorem flat_if {α : Type} {f : Nat → α} {m : Nat} : ∀ d, (List.range d).flatMap (fun c => if c < m then [f c] else []) = (List.range (min d m)).map f := by
  intro d
  induction d with
  | zero => simp
  | succ d ih =>
    rw [List.range_succ, List.flatMap_append, ih, List.flatMap_cons, List.flatMap_nil, List.append_nil]
    by_cases h : d < m
    · rw [if_pos h, Nat.min_eq_left (by omega), Nat.min_eq_left (by omega), List.range_succ, List.map_append]
      rfl
    · rw [if_neg h, List.append_nil, Nat.min_eq_right (by omega), Nat.min_eq_right (by omega)]
theorem ncl_le {rows : List (List Str)} (hO : PgOk rows) (i : Nat) : ncl rows i ≤ 5 := by
  unfold ncl
  cases q : rows[i]? with
  | none => exact Nat.zero_le _
  | some r =>
    have := (hO.rows r (List.mem_of_getElem? q)).len
    show r.length - 1 ≤ 5
    omega
/-- the entries that hold row i, in turn -/
theorem ent_cov {rows : List (List Str)} (hO : PgOk rows) (i : Nat) : (entB rows).filter (covB i) = (List.range (ncl rows i)).map (entOf rows i) := by
  unfold entB
  rw [List.filter_flatMap]
  have e : (fun c => (ofCol rows c).filter (covB i)) = fun c => if c < ncl rows i then [entOf rows i c] else [] := by
    funext c
    rw [col_cov, cl_ncl]
    by_cases h : c < ncl rows i
    · rw [if_pos (decide_eq_true h), if_pos h]; rfl
    · rw [if_neg (by rw [decide_eq_false h]; exact Bool.false_ne_true), if_neg h]
  rw [e, flat_if, Nat.min_eq_right (ncl_le hO i)]
def cntB (rows : List (List Str)) (j i : Nat) : Nat := (((entB rows).take j).filter (covB i)).length
theorem cnt_all {rows : List (List Str)} (hO : PgOk rows) (i : Nat) : cntB rows (entB rows).length i = ncl rows i := by
  unfold cntB
  rw [List.take_of_length_le (Nat.le_refl _), ent_cov hO, List.length_map, List.length_range]
theorem cnt_no {rows : List (List Str)} {j i : Nat} {q : Nat × Nat × Nat} (hq : (entB rows)[j]? = some q) (h : covB i q = false) : cntB rows (j + 1) i = cntB rows j i := by
  unfold cntB
  rw [List.take_add_one, hq, List.filter_append]
  have : List.filter (covB i) (some q).toList = [] := by
    show List.filter (covB i) [q] = []
    rw [List.filter_cons_of_neg (by rw [h]; exact Bool.false_ne_true)]
    rfl
  rw [this, List.append_nil]
theorem cnt_yes {rows : List (List Str)} (hO : PgOk rows) {j i : Nat} {q : Nat × Nat × Nat} (hq : (entB rows)[j]? = some q) (h : covB i q = true) : cntB rows (j + 1) i = cntB rows j i + 1 ∧ q = entOf rows i (cntB rows j i) ∧ cntB rows j i < ncl rows i := by
  have e1 : ((entB rows).take (j + 1)).filter (covB i) = ((entB rows).take j).filter (covB i) ++ [q] := by
    rw [List.take_add_one, hq, List.filter_append]
    congr 1
    show List.filter (covB i) [q] = [q]
    rw [List.filter_cons_of_pos h]
    rfl
  have e2 : (entB rows).filter (covB i) = (((entB rows).take j).filter (covB i) ++ [q]) ++ ((entB rows).drop (j + 1)).filter (covB i) := by
    rw [← e1, ← List.filter_append, List.take_append_drop]
  have e3 : ((entB rows).filter (covB i))[cntB rows j i]? = some q := by
    rw [e2, List.append_assoc]
    have e4 : cntB rows j i = (List.filter (covB i) (List.take j (entB rows))).length := rfl
    rw [e4, List.getElem?_append_right (Nat.le_refl _), Nat.sub_self]
    rfl
  rw [ent_cov hO, List.getElem?_map] at e3
  refine ⟨by unfold cntB; rw [e1, List.length_append]; rfl, ?_⟩
  by_cases hl : cntB rows j i < ncl rows i
  · rw [List.getElem?_eq_getElem (by rw [List.length_range]; exact hl), List.getElem_range] at e3
    exact ⟨(Option.some.inj e3).symm, hl⟩
  · rw [List.getElem?_eq_none (by rw [List.length_range]; omega)] at e3
    cases e3
def wB (rows : List (List Str)) (gap least : Int) (i c : Nat) : Int := widthB (cellsB rows c (loB rows c i) (hiB rows c i)) gap least
def rB (rows : List (List Str)) (i c : Nat) : Bool := rightB (cellsB rows c (loB rows c i) (hiB rows c i))
def leftB (rows : List (List Str)) (gap least : Int) (i : Nat) : Nat → Int
  | 0 => 0
  | c + 1 => leftB rows gap least i c + wB rows gap least i c
def leftsB (rows : List (List Str)) (gap least : Int) (i n : Nat) : List Int := (List.range (n + 1)).map (leftB rows gap least i)
theorem lefts_snoc (rows : List (List Str)) (gap least : Int) (i n : Nat) : leftsB rows gap least i (n + 1) = leftsB rows gap least i n ++ [leftB rows gap least i n + wB rows gap least i n] := by
  unfold leftsB
  rw [List.range_succ (n := n + 1), List.map_append]
  rfl
theorem lefts_len (rows : List (List Str)) (gap least : Int) (i n : Nat) : (leftsB rows gap least i n).length = n + 1 := by
  unfold leftsB
  rw [List.length_map, List.length_range]
theorem lefts_get {rows : List (List Str)} {gap least : Int} {i n c : Nat} (h : c ≤ n) : (leftsB rows gap least i n)[c]? = some (leftB rows gap least i c) := by
  unfold leftsB
  rw [List.getElem?_map, List.getElem?_range (by omega)]
  rfl
end TG
namespace TG
open PySem L2 Gx
section
variable {P : Program} {w : World} {K : PySem.W.Frag} {mg : Str → Option Value} {base : Heap} {cs : List (Addr × Addr)}
end
end TG
namespace TG
open PySem L2 Gx
/-- the list at l holds what is told of the first n closed cells of row i -/
def CellsAt (H : Hp) (rows : List (List Str)) (gap least : Int) (i n : Nat) (l : Addr) : Prop :=
  ∃ ts : List Addr, H l = some (.lst (ts.map V.ref)) ∧ ts.length = n ∧ ∀ (c : Nat) (t : Addr), ts[c]? = some t → H t = some (.tup [.int (wB rows gap least i c), .bl (rB rows i c)])
theorem CellsAt.ext {H H' : Hp} {rows : List (List Str)} {gap least : Int} {i n : Nat} {l : Addr} (x : CellsAt H rows gap least i n l) (e : LamX.ExtN H H') : CellsAt H' rows gap least i n l :=
  let ⟨ts, h1, h2, h3⟩ := x
  ⟨ts, e _ _ h1 (by intro ps z; cases z), h2, fun c t h => e _ _ (h3 c t h) (by intro ps z; cases z)⟩
theorem CellsAt.upd {H : Hp} {rows : List (List Str)} {gap least : Int} {i n : Nat} {l p : Addr} {xs : List V} {o : HO} (x : CellsAt H rows gap least i n l) (hp : H p = some (.lst xs)) (ne : l ≠ p) : CellsAt (upd H p o) rows gap least i n l :=
  let ⟨ts, h1, h2, h3⟩ := x
  ⟨ts, by rw [upd_ne ne]; exact h1, h2, fun c t h => by rw [upd_ne (ne_of (h3 c t h) hp (by intro z; cases z))]; exact h3 c t h⟩
theorem ent_le {rows : List (List Str)} {j : Nat} {q : Nat × Nat × Nat} (h : (entB rows)[j]? = some q) : q.2.1 < q.2.2 ∧ q.2.2 ≤ rows.length := by
  obtain ⟨c, _, h2⟩ := List.mem_flatMap.mp (show q ∈ (List.range 5).flatMap (ofCol rows) from List.mem_of_getElem? h)
  obtain ⟨p, h3, rfl⟩ := List.mem_map.mp h2
  obtain ⟨i, hi, e⟩ := List.getElem_of_mem h3
  obtain ⟨f1, f2, _⟩ := run_facts (i := i) (by rw [List.getElem?_eq_getElem hi, e])
  exact ⟨f1, f2⟩
section
variable {P : Program} {w : World} {K : PySem.W.Frag} {mg : Str → Option Value} {base : Heap} {cs : List (Addr × Addr)}
def spCC (K : PySem.W.Frag) (cs : List (Addr × Addr)) : Sp := fun vs H Q _ => ∃ (a st : Addr) (as : List Addr) (rows : List (List Str)) (gap least : Int), vs = [.ref a, .ref st] ∧ Tabs cs H ∧ PageAt K H a as rows ∧ PgOk rows ∧ StyleAt K H st gap least ∧
  ∀ (r : Addr) (ls : List Addr) (H' : Hp), Ex cs H H' → H r = none → (∀ l ∈ ls, H l = none) → H' r = some (.lst (ls.map V.ref)) → ls.length = rows.length → (∀ (i : Nat) (l : Addr), ls[i]? = some l → CellsAt H' rows gap least i (ncl rows i) l) → Q (.ref r) H'
abbrev nmCC : List Str := ["page", "style", "found", "rows", "column", "begin", "end", "width", "right", "holders", "number", "row"]
theorem sc_cc : FnScope nmCC ["page", "style"] (defScope s_closed_cells) := ⟨rfl, rfl, rfl, by decide +kernel, rfl, by decide +kernel, by decide +kernel⟩
theorem ok_cc {f g : Addr} {fd fdg : FuncData} (T : Txt mg) (F : Fun K "closed_cells" "closed_cells" s_closed_cells f fd)
    (G : FnOk P w K mg base CX0 12 g fdg ["page", "style"] (spStr K cs)) (kp : PySem.W.keepIn K (.ref g) = true) (bd : Binds K fdg ["page", "style"] []) (mgg : mg "stretches" = some (.ref g)) : FnOk P w K mg base CX0 13 f fd ["page", "style"] (spCC K cs) := by
  refine F.ok sc_cc (fun vs H Q E h => ?_) (fun cdv A outer s H vs Q E hr h => ?_)
  · obtain ⟨a, st, as, rows, gap, least, rfl, _⟩ := h
    rfl
  · obtain ⟨a, st, as, rows, gap, least, rfl, hT, hP, hO, hS, k⟩ := h
    have nd := sc_cc.nd
    refine ⟨_, pss_cons (ps_set (i := 2) nd rfl (.inl rfl) (pe_call G hr (by rfl) mgg kp bd .nil pass0 (pa_cons (pv 0) (pa_cons (pv 1) pa_nil))))
      (pss_cons (ps_setLc (i := 3) (own := [("row", 11)]) (g := gName 11) rfl nd rfl rfl (sw_true rfl rfl rfl (by decide +kernel)) (pi_list (pv 0)) (blkOk_by (own := [("row", 11)]) (N := nmCC) (sc := defScope s_closed_cells) (by decide +kernel))
        (fun _ _ _ _ _ => pg_name (i := 11) nd rfl (Or.inl rfl)) (fun _ _ _ _ _ => pts_nil) (fun _ _ _ _ _ => pe_lst pa_nil))
      (pss_cons (ps_for PassesOwn.never rfl (pi_list (pv 2)) (pg_tup rfl (pgs_cons (pg_name (i := 4) nd rfl (.inl rfl)) (pgs_cons (pg_name (i := 5) nd rfl (.inl rfl)) (pgs_cons (pg_name (i := 6) nd rfl (.inl rfl)) (pgs_cons (pg_name (i := 7) nd rfl (.inl rfl)) (pgs_cons (pg_name (i := 8) nd rfl (.inl rfl)) (pgs_cons (pg_name (i := 9) nd rfl (.inl rfl)) pgs_nil)))))))
        (pss_one (ps_for PassesOwn.never rfl (pi_range2 (by rfl) T.range (pa_cons (pv 5) (pa_cons (pv 6) pa_nil))) (pg_name (i := 10) nd rfl (.inl rfl))
          (pss_one (ps_expr (pe_bm PySem.F.plainAttrs_list PySem.F.slot_list_append PySem.F.type_list_append mt_append (pe_ix ix_list (pv 3) (pv 10) (fun _ _ => rfl)) (pa_cons (pe_tup (pa_cons (pv 7) (pa_cons (pv 8) pa_nil))) pa_nil)))))))
      (pss_one (ps_ret (pv 3))))), ?_⟩
    have ll := hO.len
    have szl : (1000 : Nat) < sizeLine := by decide
    have las : (as.map V.ref).length = rows.length := by rw [List.length_map, hP.len]
    refine ⟨_, rfl, _, rfl, a, st, as, rows, gap, least, rfl, hT, hP, hO, hS, fun r ts hs H1 x1 nr nts nhs hr1 ds => ?_⟩
    have hT1 := x1.tab
    refine ⟨_, rfl, a, rfl, ⟨_, x1.sqL hP.lst⟩, fun D nD => lc_list (xs := as.map V.ref) (fun i H' => ∃ ls : List Addr, Ex cs H1 H' ∧ H' D = some (.lst (ls.map V.ref)) ∧ ls.length = i ∧ ls.Nodup ∧ ∀ l ∈ ls, H1 l = none ∧ l ≠ D ∧ H' l = some (.lst []))
      ⟨[], Ex.laid hT1 nD, upd_same, rfl, List.nodup_nil, fun l h => by simp at h⟩ (fun i H' _ ⟨ls, x, _⟩ => x.sqL (x1.sqL hP.lst)) ?_ ?_⟩
    · rintro i v H2 hv ⟨ls, x2, hD, hl, hn, hf⟩
      have hil : i < as.length := by
        have := (List.getElem?_eq_some_iff.mp hv).1
        rw [List.length_map] at this
        exact this
      refine ⟨rfl, small0, fun p np => ⟨_, by rw [upd_ne (ne_of_none hD np)]; exact hD, by rw [List.length_map, hl]; have := hP.len; omega, ls ++ [p], ?_, by rw [upd_same, List.map_append]; rfl, by rw [List.length_append, hl]; rfl, ?_, fun l h => ?_⟩⟩
      · exact ex_new hT1 (x2.trans (Ex.laid x2.tab np)) nD
      · refine List.nodup_append.mpr ⟨hn, by simp, fun u hu v hv e => ?_⟩
        rw [List.mem_singleton.mp hv] at e
        have := (hf u hu).2.2
        rw [e, np] at this
        cases this
      · have pD : p ≠ D := fun z => by rw [z, hD] at np; cases np
        rcases List.mem_append.mp h with z | z
        · obtain ⟨h1, h2, h3⟩ := hf l z
          exact ⟨h1, h2, by rw [upd_ne h2, upd_ne (ne_of_none h3 np)]; exact h3⟩
        · rw [List.mem_singleton.mp z]
          exact ⟨x2.old _ np, pD, by rw [upd_ne pD, upd_same]⟩
    · rintro H2 ⟨ls, x2, hD, hl, hn, hf⟩
      rw [las] at hl
      have hnd : ∀ (i j : Nat) (l m : Addr), ls[i]? = some l → ls[j]? = some m → i ≠ j → l ≠ m := fun i j l m h1 h2 h3 e => by
        subst e
        exact h3 (nd_ix hn h1 h2)
      refine ⟨_, rfl, r, rfl, ⟨_, SqL.of (x2.lst hr1)⟩, for_list (xs := ts.map V.ref) (fun j σ H' => ∃ c4 c5 c6 c7 c8 c9 c10 : Option V, σ = [some (.ref a), some (.ref st), some (.ref r), some (.ref D), c4, c5, c6, c7, c8, c9, c10, none] ∧ Ex cs H1 H' ∧ H' D = some (.lst (ls.map V.ref)) ∧ ∀ (i : Nat) (l : Addr), ls[i]? = some l → CellsAt H' rows gap least i (cntB rows j i) l)
        ⟨_, _, _, _, _, _, _, rfl, x2, hD, fun i l h => ⟨[], (hf l (List.mem_of_getElem? h)).2.2, rfl, fun c t h => by simp at h⟩⟩ (fun j σ H' _ ⟨_, _, _, _, _, _, _, _, x, _⟩ => SqL.of (x.lst hr1)) ?_ ?_⟩
      · rintro j v σ H3 hv ⟨c4, c5, c6, c7, c8, c9, c10, rfl, x3, hD3, hC⟩
        obtain ⟨t, ht, rfl⟩ := get_map hv
        have hjt := (List.getElem?_eq_some_iff.mp ht).1
        obtain ⟨q, hq⟩ := getP (xs := entB rows) (i := j) (by rw [← ds.len]; exact hjt)
        obtain ⟨hh, hhh⟩ := getP (xs := hs) (i := j) (by rw [ds.len2, ← ds.len]; exact hjt)
        have dt := x3.tup (ds.at_ j t hh q ht hhh hq).1
        refine ⟨t, _, rfl, .inl (.inl dt), rfl, _, _, rfl, _, _, rfl, _, _, rfl, _, _, rfl, _, _, rfl, _, _, rfl, rfl, ?_⟩
        refine ⟨_, rfl, _, rfl, (q.2.1 : Int), (q.2.2 : Int), rfl, ?_⟩
        obtain ⟨q1, q2⟩ := ent_le hq
        refine ⟨by omega, for_range (lo := (q.2.1 : Int)) (n := ((q.2.2 : Int) - (q.2.1 : Int)).toNat) (fun k σ H' => ∃ c10 : Option V, σ = [some (.ref a), some (.ref st), some (.ref r), some (.ref D), some (.int (q.1 : Nat)), some (.int (q.2.1 : Nat)), some (.int (q.2.2 : Nat)), some (.int (widthB (cellsB rows q.1 q.2.1 q.2.2) gap least)), some (.bl (rightB (cellsB rows q.1 q.2.1 q.2.2))), some (.ref hh), c10, none] ∧ Ex cs H1 H' ∧ H' D = some (.lst (ls.map V.ref)) ∧
          ∀ (i : Nat) (l : Addr), ls[i]? = some l → CellsAt H' rows gap least i (cntB rows j i + if q.2.1 ≤ i ∧ i < q.2.1 + k then 1 else 0) l)
          ⟨_, rfl, x3, hD3, fun i l h => by rw [if_neg (by omega)]; exact hC i l h⟩ ?_ ?_⟩
        · rintro k σ H4 hk ⟨c10, rfl, x4, hD4, hC4⟩
          have hx : q.2.1 + k < q.2.2 := by omega
          obtain ⟨l, hl1⟩ := getP (xs := ls) (i := q.2.1 + k) (by omega)
          obtain ⟨hln, hlD, _⟩ := hf l (List.mem_of_getElem? hl1)
          have hcl := hC4 _ l hl1
          rw [if_neg (by omega), Nat.add_zero] at hcl
          obtain ⟨us, u1, u2, u3⟩ := hcl
          have hcov : covB (q.2.1 + k) q = true := decide_eq_true ⟨by omega, hx⟩
          obtain ⟨v1, v2, v3⟩ := cnt_yes hO hq hcov
          have v4 := ncl_le hO (q.2.1 + k)
          refine ⟨_, rfl, _, rfl, D, _, ((q.2.1 + k : Nat) : Int), .ref l, rfl, rfl, SqL.of hD4, atI_nat (by rw [List.getElem?_map, hl1]; rfl), .inl ⟨rfl, _, SqL.of u1⟩, _, rfl, _, rfl, line10 (by show 2 ≤ 1000; decide), fun t0 nt0 => ⟨l, us.map V.ref, .ref t0, rfl, rfl, by rw [upd_ne (ne_of_none u1 nt0)]; exact u1, by rw [List.length_map, u2]; omega, ?_⟩⟩
          have x5 := Ex.laid (o := .tup [.int (widthB (cellsB rows q.1 q.2.1 q.2.2) gap least), .bl (rightB (cellsB rows q.1 q.2.1 q.2.2))]) x4.tab nt0
          have lt0 : l ≠ t0 := ne_of_none u1 nt0
          have u1' := x5.lst u1
          refine ⟨_, rfl, ex_new hT1 (x4.trans x5) hln, by rw [upd_ne hlD.symm]; exact x5.lst hD4, fun i m h => ?_⟩
          by_cases e : i = q.2.1 + k
          · subst e
            rw [hl1] at h
            cases h
            rw [if_pos (by omega)]
            refine ⟨us ++ [t0], by rw [upd_same, List.map_append]; rfl, by rw [List.length_append, u2]; rfl, fun c t h => ?_⟩
            by_cases hc : c < us.length
            · rw [List.getElem?_append_left hc] at h
              have := x5.tup (u3 c t h)
              rw [upd_ne (ne_of this u1' (by intro z; cases z))]
              exact this
            · have hl := (List.getElem?_eq_some_iff.mp h).1
              rw [List.length_append, List.length_singleton] at hl
              have ec : c = us.length := by omega
              subst ec
              rw [List.getElem?_append_right (Nat.le_refl _), Nat.sub_self] at h
              cases h
              rw [upd_ne lt0.symm, upd_same, u2]
              have e1 : q.1 = cntB rows j (q.2.1 + k) := congrArg (fun z : Nat × Nat × Nat => z.1) v2
              have e2 : q.2.1 = loB rows (cntB rows j (q.2.1 + k)) (q.2.1 + k) := congrArg (fun z : Nat × Nat × Nat => z.2.1) v2
              have e3 : q.2.2 = hiB rows (cntB rows j (q.2.1 + k)) (q.2.1 + k) := congrArg (fun z : Nat × Nat × Nat => z.2.2) v2
              unfold wB rB
              rw [← e2, ← e3, ← e1]
          · have hne := hnd _ _ _ _ h hl1 e
            have hm := (hC4 i m h).ext x5.ext
            have ee : (if q.2.1 ≤ i ∧ i < q.2.1 + (k + 1) then 1 else 0) = (if q.2.1 ≤ i ∧ i < q.2.1 + k then 1 else 0) := by
              by_cases z : q.2.1 ≤ i ∧ i < q.2.1 + k
              · rw [if_pos z, if_pos (by omega)]
              · rw [if_neg z, if_neg (by omega)]
            rw [ee]
            exact hm.upd u1' hne
        · rintro σ H4 ⟨c10, rfl, x4, hD4, hC4⟩
          refine ⟨_, _, _, _, _, _, _, rfl, x4, hD4, fun i l h => ?_⟩
          have := hC4 i l h
          by_cases z : q.2.1 ≤ i ∧ i < q.2.2
          · rw [if_pos (by omega)] at this
            rw [(cnt_yes hO hq (decide_eq_true z)).1]
            exact this
          · rw [if_neg (by omega)] at this
            rw [cnt_no hq (decide_eq_false z)]
            exact this
      · rintro σ H3 ⟨c4, c5, c6, c7, c8, c9, c10, rfl, x3, hD3, hC⟩
        refine ⟨_, rfl, k D ls H3 (x1.trans x3) (x1.old _ nD) (fun l h => x1.old _ (hf l h).1) hD3 hl fun i l h => ?_⟩
        have := hC i l h
        rw [List.length_map, ds.len, cnt_all hO] at this
        exact this
end
end TG
namespace TG
open PySem L2 Gx
theorem at_last {α : Type} {xs : List α} {x : α} : atI (xs ++ [x]) (-1) = some x := by
  unfold atI ixN
  rw [if_neg (by omega), List.length_append, List.length_singleton, if_pos (by omega)]
  show (xs ++ [x])[((-1 : Int) + ((xs.length + 1 : Nat) : Int)).toNat]? = some x
  rw [show ((-1 : Int) + ((xs.length + 1 : Nat) : Int)).toNat = xs.length by omega, List.getElem?_append_right (Nat.le_refl _), Nat.sub_self]
  rfl
theorem lefts_last (rows : List (List Str)) (gap least : Int) (i : Nat) : ∀ n, ∃ xs, leftsB rows gap least i n = xs ++ [leftB rows gap least i n]
  | 0 => ⟨[], rfl⟩
  | n + 1 => ⟨leftsB rows gap least i n, lefts_snoc rows gap least i n⟩
theorem lefts_at (rows : List (List Str)) (gap least : Int) (i n : Nat) : atI ((leftsB rows gap least i n).map V.int) (-1) = some (V.int (leftB rows gap least i n)) := by
  obtain ⟨xs, e⟩ := lefts_last rows gap least i n
  rw [e, List.map_append]
  exact at_last
/-- the list at r holds lists of numbers, f tells them -/
structure ToldAt (H : Hp) (r : Addr) (es : List Addr) (f : Nat → List Int) (n : Nat) : Prop where
  lst : H r = some (.lst (es.map V.ref))
  len : es.length = n
  nd : es.Nodup
  at_ : ∀ (i : Nat) (e : Addr), es[i]? = some e → H e = some (.lst ((f i).map V.int))
theorem ToldAt.ext {H H' : Hp} {r : Addr} {es : List Addr} {f : Nat → List Int} {n : Nat} (t : ToldAt H r es f n) (x : LamX.ExtN H H') : ToldAt H' r es f n :=
  ⟨x _ _ t.lst (by intro ps z; cases z), t.len, t.nd, fun i e h => x _ _ (t.at_ i e h) (by intro ps z; cases z)⟩
theorem tabs_ext {cs : List (Addr × Addr)} {H H' : Hp} (t : Tabs cs H) (x : Same H H') : Tabs cs H' := fun p hp => let ⟨ps, h1, h2⟩ := t p hp; ⟨ps, x _ _ h1, h2⟩
theorem same_ext {H H' : Hp} (x : Same H H') : LamX.ExtN H H' := fun b o e _ => x b o e
theorem ex_same {cs : List (Addr × Addr)} {H H' : Hp} (t : Tabs cs H) (x : Same H H') : Ex cs H H' := ⟨same_ext x, tabs_ext t x, fun _ n => same_old x n, fun b o e _ => x b o e⟩
theorem ToldAt.add {H H' : Hp} {r : Addr} {es : List Addr} {f : Nat → List Int} {n : Nat} {e : Addr} (t : ToldAt H r es f n) (x : LamX.ExtN H H') (he : H e = none) (h' : H' e = some (.lst ((f n).map V.int))) (hr : r ∉ es) :
    ToldAt (upd H' r (.lst (es.map V.ref ++ [.ref e]))) r (es ++ [e]) f (n + 1) := by
  refine ⟨by rw [upd_same, List.map_append]; rfl, by rw [List.length_append, t.len]; rfl, ?_, fun i u h => ?_⟩
  · refine List.nodup_append.mpr ⟨t.nd, by simp, fun u hu v hv q => ?_⟩
    rw [List.mem_singleton.mp hv] at q
    obtain ⟨i, hi, e1⟩ := List.getElem_of_mem hu
    have := t.at_ i u (by rw [List.getElem?_eq_getElem hi, e1])
    rw [q, he] at this
    cases this
  · have re : e ≠ r := fun z => by rw [z, t.lst] at he; cases he
    by_cases hi : i < es.length
    · rw [List.getElem?_append_left hi] at h
      rw [upd_ne (fun z => hr (by rw [← z]; exact List.mem_of_getElem? h))]
      exact x _ _ (t.at_ i u h) (by intro ps z; cases z)
    · have hl := (List.getElem?_eq_some_iff.mp h).1
      rw [List.length_append, List.length_singleton] at hl
      have e1 : i = es.length := by omega
      subst e1
      rw [List.getElem?_append_right (Nat.le_refl _), Nat.sub_self] at h
      cases h
      rw [upd_ne re, h', t.len]
section
variable {P : Program} {w : World} {K : PySem.W.Frag} {mg : Str → Option Value} {base : Heap} {cs : List (Addr × Addr)}
def spLE : Sp := fun vs H Q _ => ∃ (l : Addr) (rows : List (List Str)) (gap least : Int) (i n : Nat), vs = [.ref l] ∧ CellsAt H rows gap least i n l ∧ n ≤ 5 ∧
  ∀ (p : Addr) (H' : Hp), Same H H' → H p = none → H' p = some (.lst ((leftsB rows gap least i n).map V.int)) → Q (.ref p) H'
abbrev nmLE : List Str := ["closed", "ends", "width", "right"]
theorem sc_le : FnScope nmLE ["closed"] (defScope s_left_ends) := ⟨rfl, rfl, rfl, by decide +kernel, rfl, by decide +kernel, by decide +kernel⟩
theorem ok_le {f : Addr} {fd : FuncData} (F : Fun K "left_ends" "left_ends" s_left_ends f fd) : FnOk P w K mg base CX0 1 f fd ["closed"] spLE := by
  refine F.ok sc_le (fun vs H Q E h => ?_) (fun cdv A outer s H vs Q E hr h => ?_)
  · obtain ⟨l, rows, gap, least, i, n, rfl, _⟩ := h
    rfl
  · obtain ⟨l, rows, gap, least, i, n, rfl, ⟨ts, h1, h2, h3⟩, n5, k⟩ := h
    have nd := sc_le.nd
    refine ⟨_, pss_cons (ps_set (i := 1) nd rfl (.inl rfl) (pe_lst (pa_cons pe_int pa_nil)))
      (pss_cons (ps_for PassesOwn.never rfl (pi_list (pv 0)) (pg_tup rfl (pgs_cons (pg_name (i := 2) nd rfl (.inl rfl)) (pgs_cons (pg_name (i := 3) nd rfl (.inl rfl)) pgs_nil)))
        (pss_one (ps_expr (pe_bm PySem.F.plainAttrs_list PySem.F.slot_list_append PySem.F.type_list_append mt_append (pv 1) (pa_cons (pe_op op_add (pe_ix ix_list (pv 1) (pe_un un_neg pe_int) (fun _ _ => rfl)) (pv 2)) pa_nil)))))
      (pss_one (ps_ret (pv 1)))), ?_⟩
    have szl : (1000 : Nat) < sizeLine := by decide
    refine ⟨line10 (by show 1 ≤ 1000; decide), fun p np => ⟨_, rfl, l, rfl, ⟨_, SqL.of (by rw [upd_ne (ne_of_none h1 np)]; exact h1)⟩, for_list (xs := ts.map V.ref) (fun j σ H' => ∃ c2 c3 : Option V, σ = [some (.ref l), some (.ref p), c2, c3] ∧ Same H H' ∧ H' p = some (.lst ((leftsB rows gap least i j).map V.int)))
      ⟨_, _, rfl, same_new np, upd_same⟩ (fun j σ H' _ ⟨_, _, _, x, _⟩ => SqL.of (x _ _ h1)) ?_ ?_⟩⟩
    · rintro j v σ H1 hv ⟨c2, c3, rfl, x1, hp⟩
      obtain ⟨t, ht, rfl⟩ := get_map hv
      have hj := (List.getElem?_eq_some_iff.mp ht).1
      refine ⟨t, _, rfl, .inl (.inl (x1 _ _ (h3 j t ht))), rfl, _, _, rfl, _, _, rfl, rfl, ?_⟩
      refine ⟨_, rfl, .inl ⟨rfl, _, SqL.of hp⟩, _, rfl, 1, rfl, p, _, -1, _, rfl, rfl, SqL.of hp, lefts_at .., _, rfl, _, _, rfl, rfl, p, _, _, rfl, rfl, hp, by rw [List.length_map, lefts_len]; omega, ⟨_, _, rfl, same_upd x1 np, ?_⟩⟩
      rw [upd_same, lefts_snoc, List.map_append]
      rfl
    · rintro σ H1 ⟨c2, c3, rfl, x1, hp⟩
      rw [List.length_map, h2] at hp
      exact ⟨_, rfl, k p H1 x1 np hp⟩
/-- a list of lists of numbers, a row each -/
def spTold (K : PySem.W.Frag) (cs : List (Addr × Addr)) (f : List (List Str) → Int → Int → Nat → List Int) : Sp := fun vs H Q _ => ∃ (a st : Addr) (as : List Addr) (rows : List (List Str)) (gap least : Int), vs = [.ref a, .ref st] ∧ Tabs cs H ∧ PageAt K H a as rows ∧ PgOk rows ∧ StyleAt K H st gap least ∧
  ∀ (r : Addr) (es : List Addr) (H' : Hp), Ex cs H H' → H r = none → (∀ e ∈ es, H e = none ∧ e ≠ r) → ToldAt H' r es (f rows gap least) rows.length → Q (.ref r) H'
end
end TG
namespace TG
open PySem L2 Gx
def lenC (rows : List (List Str)) (i c : Nat) : Int := (((rows.getD i []).getD c nilS).length : Nat)
/-- the begins of row i when the first j closed cells have been looked at -/
def begC (rows : List (List Str)) (gap least : Int) (i j c : Nat) : Int := if c < j ∧ rB rows i c = true then leftB rows gap least i (c + 1) - gap - lenC rows i c else leftB rows gap least i c
def begsTo (rows : List (List Str)) (gap least : Int) (i j : Nat) : List Int := (List.range (ncl rows i + 1)).map (begC rows gap least i j)
def begsR (rows : List (List Str)) (gap least : Int) (i : Nat) : List Int := begsTo rows gap least i (ncl rows i)
theorem begs_zero (rows : List (List Str)) (gap least : Int) (i : Nat) : begsTo rows gap least i 0 = leftsB rows gap least i (ncl rows i) := by
  unfold begsTo leftsB
  refine List.map_congr_left fun c _ => ?_
  unfold begC
  rw [if_neg (by omega)]
theorem begs_len (rows : List (List Str)) (gap least : Int) (i j : Nat) : (begsTo rows gap least i j).length = ncl rows i + 1 := by
  unfold begsTo
  rw [List.length_map, List.length_range]
theorem begs_no {rows : List (List Str)} {gap least : Int} {i j : Nat} (h : rB rows i j = false) : begsTo rows gap least i (j + 1) = begsTo rows gap least i j := by
  unfold begsTo
  refine List.map_congr_left fun c _ => ?_
  unfold begC
  by_cases e : c = j
  · subst e
    rw [if_neg (fun z => by rw [h] at z; cases z.2), if_neg (by omega)]
  · by_cases q : c < j ∧ rB rows i c = true
    · rw [if_pos q, if_pos ⟨by omega, q.2⟩]
    · rw [if_neg q, if_neg (fun z => q ⟨by omega, z.2⟩)]
theorem begs_yes {rows : List (List Str)} {gap least : Int} {i j : Nat} (hj : j < ncl rows i) (h : rB rows i j = true) : (begsTo rows gap least i j).set j (leftB rows gap least i (j + 1) - gap - lenC rows i j) = begsTo rows gap least i (j + 1) := by
  apply List.ext_getElem?
  intro c
  rw [List.getElem?_set]
  have e1 : ∀ j, (begsTo rows gap least i j)[c]? = if c < ncl rows i + 1 then some (begC rows gap least i j c) else none := fun j => by
    unfold begsTo
    rw [List.getElem?_map]
    by_cases q : c < ncl rows i + 1
    · rw [List.getElem?_range q, if_pos q]; rfl
    · rw [List.getElem?_eq_none (by rw [List.length_range]; omega), if_neg q]; rfl
  by_cases e : j = c
  · subst e
    rw [if_pos rfl, if_pos (by rw [begs_len]; omega), e1, if_pos (by omega)]
    unfold begC
    rw [if_pos ⟨Nat.lt_succ_self _, h⟩]
  · rw [if_neg e, e1, e1]
    have : begC rows gap least i (j + 1) c = begC rows gap least i j c := by
      unfold begC
      by_cases q : c < j ∧ rB rows i c = true
      · rw [if_pos q, if_pos ⟨by omega, q.2⟩]
      · rw [if_neg q, if_neg (fun z => q ⟨by omega, z.2⟩)]
    rw [this]
theorem set_map {α β : Type} {f : α → β} {xs : List α} {i : Nat} {x : α} : (xs.map f).set i (f x) = (xs.set i x).map f := by
  rw [List.map_set]
section
variable {P : Program} {w : World} {K : PySem.W.Frag} {mg : Str → Option Value} {base : Heap} {cs : List (Addr × Addr)}
def spBO (K : PySem.W.Frag) : Sp := fun vs H Q _ => ∃ (a l : Addr) (rows : List (List Str)) (gap least : Int) (i : Nat) (r : List Str), vs = [.ref a, .ref l, .int gap] ∧ rows[i]? = some r ∧ PgOk rows ∧ SqT K H a (sV r) ∧ CellsAt H rows gap least i (ncl rows i) l ∧
  ∀ (p : Addr) (H' : Hp), Same H H' → H p = none → H' p = some (.lst ((begsR rows gap least i).map V.int)) → Q (.ref p) H'
abbrev nmBO : List Str := ["row", "closed", "gap", "ends", "begins", "number", "width", "right"]
theorem sc_bo : FnScope nmBO ["row", "closed", "gap"] (defScope s_begins_of) := ⟨rfl, rfl, rfl, by decide +kernel, rfl, by decide +kernel, by decide +kernel⟩
theorem ok_bo {f g : Addr} {fd fdg : FuncData} (T : Txt mg) (F : Fun K "begins_of" "begins_of" s_begins_of f fd)
    (G : FnOk P w K mg base CX0 1 g fdg ["closed"] spLE) (kp : PySem.W.keepIn K (.ref g) = true) (bd : Binds K fdg ["closed"] []) (mgg : mg "left_ends" = some (.ref g)) : FnOk P w K mg base CX0 2 f fd ["row", "closed", "gap"] (spBO K) := by
  refine F.ok sc_bo (fun vs H Q E h => ?_) (fun cdv A outer s H vs Q E hr h => ?_)
  · obtain ⟨a, l, rows, gap, least, i, r, rfl, _⟩ := h
    rfl
  · obtain ⟨a, l, rows, gap, least, i, r, rfl, hr2, hO, hA, hC, k⟩ := h
    have nd := sc_bo.nd
    refine ⟨_, pss_cons (ps_set (i := 3) nd rfl (.inl rfl) (pe_call G hr (by rfl) mgg kp bd .nil pass0 (pa_cons (pv 1) pa_nil)))
      (pss_cons (ps_set (i := 4) nd rfl (.inl rfl) (pe_callTy call_list_of (by rfl) T.list (by decide +kernel) (pa_cons (pv 3) pa_nil)))
      (pss_cons (ps_for PassesOwn.never rfl (pi_enum (by rfl) T.enum (pa_cons (pv 1) pa_nil)) (pg_tup rfl (pgs_cons (pg_name (i := 5) nd rfl (.inl rfl)) (pgs_cons (pg_tup rfl (pgs_cons (pg_name (i := 6) nd rfl (.inl rfl)) (pgs_cons (pg_name (i := 7) nd rfl (.inl rfl)) pgs_nil))) pgs_nil)))
        (pss_one (ps_if (pt_val (pv 7)) (pss_one (ps_asg (pe_op op_sub (pe_op op_sub (pe_ix ix_list (pv 3) (pe_op op_add (pv 5) pe_int) (fun _ _ => rfl)) (pv 2)) (pe_callB call_len_str (by rfl) T.len PySem.boot_len (pa_cons (pe_ix ix_tup (pv 0) (pv 5) (fun _ _ => rfl)) pa_nil))) (pg_sub (pv 4) (pv 5) set_list))) pss_nil)))
      (pss_one (ps_ret (pv 4))))), ?_⟩
    have szl : (1000 : Nat) < sizeLine := by decide
    have n5 := ncl_le hO i
    have hrO := hO.rows r (List.mem_of_getElem? hr2)
    have hnc : ncl rows i = r.length - 1 := by unfold ncl; rw [hr2]
    refine ⟨_, rfl, l, rows, gap, least, i, ncl rows i, rfl, hC, n5, fun e H1 x1 ne he => ⟨_, rfl, e, _, rfl, .inl (SqL.of he), fun b nb => ?_⟩⟩
    obtain ⟨ts, h1, h2, h3⟩ := hC
    have x2 : Same H (upd H1 b (.lst ((leftsB rows gap least i (ncl rows i)).map V.int))) := same_trans x1 (same_new nb)
    have eb : e ≠ b := ne_of_none he nb
    have nb0 := same_old x1 nb
    refine ⟨_, rfl, l, _, rfl, SqL.of (x2 _ _ h1), for_it (walk_enum (xs := ts.map V.ref)) (fun j σ H' => ∃ c5 c6 c7 : Option V, σ = [some (.ref a), some (.ref l), some (.int gap), some (.ref e), some (.ref b), c5, c6, c7] ∧ Same H H' ∧ H' e = some (.lst ((leftsB rows gap least i (ncl rows i)).map V.int)) ∧ H' b = some (.lst ((begsTo rows gap least i j).map V.int)))
      ⟨_, _, _, rfl, x2, by rw [upd_ne eb]; exact he, by rw [upd_same, begs_zero]⟩ (fun j σ H' _ ⟨_, _, _, _, x, _⟩ => SqL.of (x _ _ h1)) ?_ ?_⟩
    · rintro j x σ H3 H4 hi ⟨c5, c6, c7, rfl, x3, he3, hb3⟩ ⟨Tp, v, u, rfl, hn, rfl, hv, hu⟩
      cases hv
      obtain ⟨t, ht, rfl⟩ := get_map hu
      have hj := (List.getElem?_eq_some_iff.mp ht).1
      have x4 : Same H3 (upd H3 Tp (.tup [.int (j : Nat), .ref t])) := same_new hn
      generalize hH4 : upd H3 Tp (.tup [.int (j : Nat), .ref t]) = H4 at x4 ⊢
      have hTp : H4 Tp = some (.tup [.int (j : Nat), .ref t]) := by rw [← hH4, upd_same]
      have x34 := same_trans x3 x4
      have he4 := x4 _ _ he3
      have hb4 := x4 _ _ hb3
      refine ⟨Tp, _, rfl, .inl (.inl hTp), rfl, _, _, rfl, _, _, rfl, t, _, rfl, .inl (.inl (x34 _ _ (h3 j t ht))), rfl, _, _, rfl, _, _, rfl, rfl, rfl, ?_⟩
      refine ⟨_, rfl, rB rows i j, rfl, ?_⟩
      cases hrb : rB rows i j with
      | false => exact iteF ⟨_, _, _, rfl, x34, he4, by rw [begs_no hrb]; exact hb4⟩
      | true =>
        have hjr : j < r.length := by omega
        have ec : lenC rows i j = (((r[j]'hjr).length : Nat) : Int) := by
          unfold lenC
          rw [show rows.getD i [] = r by rw [List.getD_eq_getElem?_getD, hr2]; rfl, List.getD_eq_getElem?_getD, List.getElem?_eq_getElem hjr]
          rfl
        have zl := (hrO.cells _ (List.getElem_mem hjr)).len
        refine iteT ⟨_, rfl, _, rfl, j, 1, rfl, rfl, e, _, ((j + 1 : Nat) : Int), _, rfl, rfl, SqL.of he4, atI_nat (by rw [List.getElem?_map, lefts_get (by omega)]; rfl), _, rfl, _, _, rfl, rfl, _, rfl, _, rfl, a, _, j, _, rfl, rfl, same_sqT x34 hA, atI_nat (by rw [List.getElem?_map, List.getElem?_eq_getElem hjr]; rfl), _, rfl, line10 (by omega), _, _, rfl, rfl, _, rfl, _, rfl, b, _, j, j, rfl, rfl, hb4, ?_, ⟨_, _, _, rfl, same_upd x34 nb0, by rw [upd_ne eb]; exact he4, ?_⟩⟩
        · rw [List.length_map, begs_len]
          unfold ixN
          rw [if_pos (by omega), if_pos (by omega)]
          rfl
        · rw [upd_same, set_map, ← ec, begs_yes (by omega) hrb]
    · rintro σ H3 ⟨c5, c6, c7, rfl, x3, he3, hb3⟩
      rw [List.length_map, h2] at hb3
      exact ⟨_, rfl, k b H3 x3 nb0 hb3⟩
end
end TG
namespace TG
open PySem L2 Gx
section
variable {P : Program} {w : World} {K : PySem.W.Frag} {mg : Str → Option Value} {base : Heap} {cs : List (Addr × Addr)}
abbrev nmLaid : List Str := ["page", "style", "rows", "gap", "row", "closed"]
theorem sc_laid : FnScope nmLaid ["page", "style"] (defScope s_laid) := ⟨rfl, rfl, rfl, by decide +kernel, rfl, by decide +kernel, by decide +kernel⟩
theorem ok_laid {f g g2 : Addr} {fd fdg fd2 : FuncData} (hz : mg "zip" = none) (F : Fun K "laid" "laid" s_laid f fd)
    (G : FnOk P w K mg base CX0 13 g fdg ["page", "style"] (spCC K cs)) (kp : PySem.W.keepIn K (.ref g) = true) (bd : Binds K fdg ["page", "style"] []) (mgg : mg "closed_cells" = some (.ref g))
    (G2 : FnOk P w K mg base CX0 2 g2 fd2 ["row", "closed", "gap"] (spBO K)) (kp2 : PySem.W.keepIn K (.ref g2) = true) (bd2 : Binds K fd2 ["row", "closed", "gap"] []) (mg2 : mg "begins_of" = some (.ref g2)) : FnOk P w K mg base CX0 14 f fd ["page", "style"] (spTold K cs begsR) := by
  refine F.ok sc_laid (fun vs H Q E h => ?_) (fun cdv A outer s H vs Q E hr h => ?_)
  · obtain ⟨a, st, as, rows, gap, least, rfl, _⟩ := h
    rfl
  · obtain ⟨a, st, as, rows, gap, least, rfl, hT, hP, hO, hS, k⟩ := h
    have nd := sc_laid.nd
    have hr2 : Room 2 _ := hr.mono (by decide)
    refine ⟨_, pss_cons (ps_set (i := 2) nd rfl (.inl rfl) (pe_call G hr (by rfl) mgg kp bd .nil pass0 (pa_cons (pv 0) (pa_cons (pv 1) pa_nil))))
      (pss_cons (ps_set (i := 3) nd rfl (.inr rfl) (pe_ix ix_tup (pv 1) pe_int (fun _ _ => rfl)))
      (pss_one (ps_ret (pe_lc (own := [("row", 4), ("closed", 5)]) (g := gTup K 2 (gCons (gName 4) (gCons (gName 5) gNil))) (tt := tYes) rfl nd (pi_zip (by rfl) hz (pa_cons (pv 0) (pa_cons (pv 2) pa_nil))) (blkOk_by (own := [("row", 4), ("closed", 5)]) (N := nmLaid) (sc := defScope s_laid) (by decide +kernel))
        (fun _ _ _ _ _ => pg_tup rfl (pgs_cons (pg_name (i := 4) nd rfl (.inl rfl) (.inr rfl)) (pgs_cons (pg_name (i := 5) nd rfl (.inl rfl) (.inr rfl)) pgs_nil))) (fun _ _ _ _ _ => pts_nil) (fun s1 H1 C1 cl1 fp1 => pe_call G2 hr2 (by rfl) mg2 kp2 bd2 .nil pass0 (pa_cons (pv 4) (pa_cons (pv 5) (pa_cons (pv 3) pa_nil)))))))), ?_⟩
    have ll := hO.len
    have szl : (1000 : Nat) < sizeLine := by decide
    refine ⟨_, rfl, _, rfl, a, st, as, rows, gap, least, rfl, hT, hP, hO, hS, fun r ls H1 x1 nr nls hr1 hll hC => ⟨_, rfl, st, _, 0, .int gap, rfl, rfl, x1.sqT hS.tup, at0, _, rfl, _, rfl, a, r, _, _, rfl, x1.sqL hP.lst, SqL.of hr1, fun D nD => lc_it (walk_zip (xs := as.map V.ref) (ys := ls.map V.ref) (n := rows.length) (by rw [List.length_map, List.length_map, hP.len, hll, Nat.min_self])) (fun i H' => ∃ es : List Addr, Ex cs H1 H' ∧ ToldAt H' D es (begsR rows gap least) i ∧ ∀ e ∈ es, H1 e = none ∧ e ≠ D)
      ⟨[], Ex.laid x1.tab nD, ⟨upd_same, rfl, List.nodup_nil, fun i e h => by simp at h⟩, fun e h => by simp at h⟩ (fun i H' _ ⟨es, x, _⟩ => ⟨x.sqL (x1.sqL hP.lst), SqL.of (x.lst hr1)⟩) ?_ ?_⟩⟩
    · rintro i v H2 H3 hi ⟨es, x2, t2, f2⟩ ⟨Tp, v1, u, rfl, hn, rfl, hv, hu⟩
      obtain ⟨p, hp, rfl⟩ := get_map hv
      obtain ⟨l, hl, rfl⟩ := get_map hu
      obtain ⟨z, hz2⟩ := getP (xs := rows) (i := i) hi
      have x3 := Ex.laid (o := .tup [.ref p, .ref l]) x2.tab hn
      generalize hH : upd H2 Tp (.tup [.ref p, .ref l]) = H3 at x3 ⊢
      have hTp : H3 Tp = some (.tup [.ref p, .ref l]) := by rw [← hH, upd_same]
      have x23 := x2.trans x3
      refine ⟨Tp, _, rfl, .inl (.inl hTp), rfl, _, _, rfl, _, _, rfl, rfl, rfl, _, rfl, _, rfl, _, rfl, p, l, rows, gap, least, i, z, rfl, hz2, hO, (x1.trans x23).sqT (hP.row i p z hp hz2), (hC i l hl).ext x23.ext, fun q H4 x4 nq hq => ?_⟩
      have t3 := t2.ext x3.ext
      have qD : q ≠ D := fun z => by rw [z, x4 _ _ t3.lst] at hq; have := x4 _ _ t3.lst; rw [← z] at this; rw [z, t3.lst] at nq; cases nq
      refine ⟨_, x4 _ _ t3.lst, by rw [List.length_map, t3.len]; omega, es ++ [q], ex_new x1.tab (x23.trans (ex_same x3.tab x4)) nD, t3.add (same_ext x4) nq hq (fun z => (f2 D z).2 rfl), fun e h => ?_⟩
      rcases List.mem_append.mp h with z | z
      · exact f2 e z
      · rw [List.mem_singleton.mp z]
        exact ⟨x23.old _ nq, qD⟩
    · rintro H2 ⟨es, x2, t2, f2⟩
      exact k D es H2 (x1.trans x2) (x1.old _ nD) (fun e h => ⟨x1.old _ (f2 e h).1, (f2 e h).2⟩) t2
end
end TG
namespace TG
open PySem L2 Gx
theorem ToldAt.go {H H' : Hp} {r : Addr} {es : List Addr} {f : Nat → List Int} {n : Nat} (t : ToldAt H r es f n) (x : Same H H') : ToldAt H' r es f n := t.ext (same_ext x)
section
variable {P : Program} {w : World} {K : PySem.W.Frag} {mg : Str → Option Value} {base : Heap} {cs : List (Addr × Addr)}
theorem StyleAt.same {H H' : Hp} {a : Addr} {gap least : Int} (p : StyleAt K H a gap least) (e : Same H H') : StyleAt K H' a gap least := ⟨same_sqT e p.tup, p.g0, p.g1, p.l0, p.l1⟩
end
end TG
namespace TG
open PySem L2 Gx
theorem ToldAt.congr {H : Hp} {r : Addr} {es : List Addr} {f g : Nat → List Int} {n : Nat} (t : ToldAt H r es f n) (e : ∀ i, i < n → f i = g i) : ToldAt H r es g n :=
  ⟨t.lst, t.len, t.nd, fun i u h => by rw [← e i (by rw [← t.len]; exact (List.getElem?_eq_some_iff.mp h).1)]; exact t.at_ i u h⟩
theorem ToldAt.put {H : Hp} {r : Addr} {es : List Addr} {f : Nat → List Int} {n i : Nat} {e : Addr} {xs : List Int} (t : ToldAt H r es f n) (he : es[i]? = some e) (ne : e ≠ r) : ToldAt (upd H e (.lst (xs.map V.int))) r es (fun k => if k = i then xs else f k) n := by
  refine ⟨by rw [upd_ne ne.symm]; exact t.lst, t.len, t.nd, fun k u h => ?_⟩
  by_cases q : k = i
  · subst q
    rw [he] at h
    cases h
    rw [upd_same, if_pos rfl]
  · rw [if_neg q, upd_ne (fun z => q (nd_ix t.nd h (by rw [z]; exact he)))]
    exact t.at_ k u h
section
variable {P : Program} {w : World} {K : PySem.W.Frag} {mg : Str → Option Value} {base : Heap} {cs : List (Addr × Addr)}
end
end TG
namespace TG
open PySem L2 Gx
def rowsD (rows : List (List Str)) : List PyData := rows.map fun r => .tuple (r.map .str)
theorem dpAll_of {K : PySem.W.Frag} {H : Hp} : ∀ {vs : List V} {ds : List PyData}, vs.length = ds.length → (∀ (i : Nat) (v : V) (d : PyData), vs[i]? = some v → ds[i]? = some d → Dp K H v d) → DpAll K H vs ds
  | [], [], _, _ => .nil
  | [], _ :: _, h, _ => by simp at h
  | _ :: _, [], h, _ => by simp at h
  | v :: vs, d :: ds, h, k => .cons (k 0 v d rfl rfl) (dpAll_of (by simpa using h) fun i v' d' h1 h2 => k (i + 1) v' d' (by simpa using h1) (by simpa using h2))
theorem depthAll_of {m : Nat} : ∀ {ds : List PyData}, (∀ d ∈ ds, d.depth ≤ m) → PyData.depthAll ds ≤ m
  | [], _ => Nat.zero_le _
  | d :: ds, h => by
    simp only [PyData.depthAll]
    have h1 := h d List.mem_cons_self
    have h2 := depthAll_of (m := m) fun e he => h e (List.mem_cons_of_mem _ he)
    omega
theorem dp_rows {K : PySem.W.Frag} {H : Hp} : ∀ {as : List Addr} {rows : List (List Str)}, as.length = rows.length → (∀ (i : Nat) (q : Addr) (r : List Str), as[i]? = some q → rows[i]? = some r → SqT K H q (sV r)) → DpAll K H (as.map V.ref) (rowsD rows)
  | [], [], _, _ => .nil
  | [], _ :: _, h, _ => by simp at h
  | _ :: _, [], h, _ => by simp at h
  | a :: as, r :: rows, h, k => .cons (.tup (k 0 a r rfl rfl) (dp_strs r)) (dp_rows (by simpa using h) fun i q r' h1 h2 => k (i + 1) q r' (by simpa using h1) (by simpa using h2))
theorem canAll_rows : ∀ {rows : List (List Str)}, (∀ r ∈ rows, ∀ z ∈ r, CellOk z) → PyData.canLayAll0 (rowsD rows) = true
  | [], _ => rfl
  | r :: rows, h => by
    show PyData.canLayAll0 (.tuple (r.map .str) :: rowsD rows) = true
    simp only [PyData.canLayAll0, PyData.canLay0, Bool.and_eq_true]
    exact ⟨canAll_strs fun z hz => (h r List.mem_cons_self z hz).sg, canAll_rows fun r' hr => h r' (List.mem_cons_of_mem _ hr)⟩
theorem depthAll_rows : ∀ rows : List (List Str), PyData.depthAll (rowsD rows) ≤ 1
  | [] => Nat.zero_le _
  | r :: rows => by
    show PyData.depthAll (.tuple (r.map .str) :: rowsD rows) ≤ 1
    simp only [PyData.depthAll, PyData.depth, depthAll_strs]
    have := depthAll_rows rows
    omega
theorem can_rows {rows : List (List Str)} (h : PgOk rows) : PyData.canLay0 (.list (rowsD rows)) = true := by
  simp only [PyData.canLay0]
  exact canAll_rows fun r hr z hz => (h.rows r hr).cells z hz
theorem tabs_kb {cs : List (Addr × Addr)} {b l : Addr} {H H' : Hp} (t : Tabs cs H) (B : BoxAt H b l) (x : KB b l H H') : Tabs cs H' := fun p hp => by
  obtain ⟨ps, h1, h2⟩ := t p hp
  obtain ⟨ns, st, e1, e2, _⟩ := B
  exact ⟨ps, x _ _ h1 (ne_of h1 e1 (by intro z; cases z)) (ne_of h1 e2 (by intro z; cases z)), h2⟩
theorem box_ext {b l : Addr} {H H' : Hp} (B : BoxAt H b l) (x : LamX.ExtN H H') : BoxAt H' b l := let ⟨ns, st, h1, h2, h3⟩ := B; ⟨ns, st, x _ _ h1 (by intro ps z; cases z), x _ _ h2 (by intro ps z; cases z), h3⟩
/-- what stands in a turn of the law: the box, the tables, the page and its copy, the style -/
structure PageT (cs : List (Addr × Addr)) (b l p q h : Addr) (as : List Addr) (rows : List (List Str)) (gap least : Int) (H : Hp) : Prop where
  box : BoxAt H b l
  tab : Tabs cs H
  pg : H p = some (.lst (as.map V.ref))
  hd : H h = some (.lst (as.map V.ref))
  al : as.length = rows.length
  row : ∀ (i : Nat) (a : Addr) (z : List Str), as[i]? = some a → rows[i]? = some z → H a = some (.tup (sV z))
  sty : H q = some (.tup [.int gap, .int least])
  g0 : 0 ≤ gap
  g1 : gap ≤ 4
  l0 : 0 ≤ least
  l1 : least ≤ 12
  ok : PgOk rows
theorem PageT.ext {cs : List (Addr × Addr)} {b l p q h : Addr} {as : List Addr} {rows : List (List Str)} {gap least : Int} {H H' : Hp} (t : PageT cs b l p q h as rows gap least H) (x : LamX.ExtN H H') (y : Tabs cs H') : PageT cs b l p q h as rows gap least H' :=
  ⟨box_ext t.box x, y, x _ _ t.pg (by intro ps z; cases z), x _ _ t.hd (by intro ps z; cases z), t.al, fun i a z h1 h2 => x _ _ (t.row i a z h1 h2) (by intro ps z; cases z), x _ _ t.sty (by intro ps z; cases z), t.g0, t.g1, t.l0, t.l1, t.ok⟩
def toldD (f : Nat → List Int) (n : Nat) : PyData := .list ((List.range n).map fun i => .list ((f i).map .int))
theorem dp_told {K : PySem.W.Frag} {H : Hp} {r : Addr} {es : List Addr} {f : Nat → List Int} {n : Nat} (t : ToldAt H r es f n) : Dp K H (.ref r) (toldD f n) := by
  refine .lst (SqL.of t.lst) (dpAll_of (by rw [List.length_map, List.length_map, List.length_range, t.len]) fun i v d h1 h2 => ?_)
  obtain ⟨e, he, rfl⟩ := get_map h1
  obtain ⟨k, hk, rfl⟩ := get_map h2
  have hi : i < n := by
    have := (List.getElem?_eq_some_iff.mp hk).1
    rwa [List.length_range] at this
  rw [List.getElem?_range hi] at hk
  cases hk
  exact .lst (SqL.of (t.at_ i e he)) (dp_ints _)
theorem depth_told (f : Nat → List Int) (n : Nat) : (toldD f n).depth ≤ 2 := by
  unfold toldD
  simp only [PyData.depth]
  refine Nat.succ_le_succ (depthAll_of fun d hd => ?_)
  obtain ⟨i, _, rfl⟩ := List.mem_map.mp hd
  simp only [PyData.depth, depthAll_ints]
  omega
end TG
namespace Zm
open PySem PySem.Spec PyProof.Rows L2
section
variable {P : Program} {w : World} {A : Around} {E : Value → Shared → Prop} {s : Shared} {z TI TO i1 i2 l1 l2 : Addr}
end
end Zm
namespace Zm
open PySem PySem.Spec PyProof.Rows L2
abbrev k1 (h : Heap) (a : Addr) : Heap := h.push { cls := .type "tuple_iterator", data := .fields #[.ref a, .int 0 0] }
abbrev k2 (h : Heap) (a b : Addr) : Heap := (k1 h a).push { cls := .type "list_iterator", data := .fields #[.ref b, .int 0 0] }
abbrev k3 (h : Heap) (a b : Addr) : Heap := (k2 h a b).push { cls := .type "tuple", data := .seq #[.ref h.objs.size, .ref (k1 h a).objs.size] }
abbrev k4 (h : Heap) (a b : Addr) : Heap := (k3 h a b).push { cls := .type "tuple", data := .seq #[.none, .none] }
abbrev k5 (h : Heap) (a b : Addr) : Heap := (k4 h a b).push { cls := .type "zip", data := .fields #[.none, .bool false, .bool false, .ref (k2 h a b).objs.size, .ref (k3 h a b).objs.size] }
theorem made (a b : Addr) (xs ys : Array Value) : Meets (Builtin.«zip.__new__» ⟨[.type "zip", .ref a, .ref b], []⟩) (fun _ R t => t.heap.IsTuple a xs ∧ t.heap.IsList b ys ∧ R (.ok (.ret (.ref (k4 t.heap a b).objs.size))) { t with heap := k5 t.heap a b }) :=
  .of_wp fun P w A R t h => by
    obtain ⟨hp, g, d, tk, os⟩ := t
    obtain ⟨u1, u2, h⟩ := h
    have hsub := sub_zip
    have v1 : Heap.IsTuple (Shared.heap ⟨hp, g, d, tk, os⟩) a xs := u1
    have v2 : Heap.IsList (Shared.heap ⟨hp.push { cls := .type "tuple_iterator", data := .fields #[.ref a, .int 0 0] }, g, d, tk, os⟩) b ys := Heap.IsList.push u2 _
    wp_walk using wpAny_pyIter_tuple v1, wpAny_pyIter_list v2
    exact ⟨_, rfl, h⟩
section
variable {P : Program} {w : World} {A : Around} {E : Value → Shared → Prop} {s : Shared}
end
end Zm
namespace TG
open PySem L2 Gx
section
variable {P : Program} {w : World} {K : PySem.W.Frag} {mg : Str → Option Value} {base : Heap} {cs : List (Addr × Addr)}
end
end TG
namespace TG
open PySem L2 Gx
section
variable {P : Program} {w : World} {K : PySem.W.Frag} {mg : Str → Option Value} {base : Heap} {cs : List (Addr × Addr)}
end
end TG
namespace Lv
open PySem PySem.Spec PyProof.Rows L2 NdefX GenW
/-- the object at f is the lambda F of the body e -/
def FnL (f : Addr) (F : NF) (e : Expr) : HO := .ext fun h => ∃ (od : Option Addr) (sl : Array (Option Value)) (pm ctv : Value), h.get? f = some (⟨.type "function", od, .func (PySem.W.kla_fn F.name F.qual F.params e F.scope F.cl pm (.ref F.c) ctv), sl⟩ : Obj)
theorem fnL_at {P : Program} {w : World} {H : Hp} {h : Heap} {f : Addr} {F : NF} {e : Expr} (hok : HOk P w H h) (q : H f = some (FnL f F e)) : ∃ (od : Option Addr) (sl : Array (Option Value)) (pm ctv : Value), h.get? f = some (⟨.type "function", od, .func (PySem.W.kla_fn F.name F.qual F.params e F.scope F.cl pm (.ref F.c) ctv), sl⟩ : Obj) := by
  have z := hok f _ q
  obtain ⟨z, _, _⟩ := z
  exact z
theorem fnL_ne {f : Addr} {F : NF} {e : Expr} (ps : Array Value) : FnL f F e ≠ .tbl ps := fun z => by
  unfold FnL at z
  cases z
section
variable {X : Cx} {pins : List (Addr × Obj)} {σ : L2.St} {H : Hp} {s : Shared}
theorem inv_lam {F : NF} {e : Expr} {tk : Nat} {pm ctv : Value} (I : Inv X pins σ H s) :
    Inv X pins σ (upd H s.heap.objs.size (FnL s.heap.objs.size F e)) { s with heap := s.heap.push (PySem.W.kla_obj F.name F.qual F.params e F.scope F.cl pm F.c ctv), toks := tk } := by
  refine I.laid (a := s.heap.objs.size) (fun b u q => Heap.get?_push_of_some _ q) (Nat.le_refl _) ?_
  have q : (s.heap.push (PySem.W.kla_obj F.name F.qual F.params e F.scope F.cl pm F.c ctv)).get? s.heap.objs.size = some (PySem.W.kla_obj F.name F.qual F.params e F.scope F.cl pm F.c ctv) := Heap.get?_push_size _ rfl
  exact ⟨⟨_, _, pm, ctv, q⟩, ⟨_, q⟩, fun h1 h2 ⟨od, sl, p, t, z⟩ st => ⟨od, sl, p, t, st _ z⟩⟩
/-- a lambda's object is made, its code object too, if the table has none yet -/
theorem lam_val {c P : Addr} {params : Arguments} {body : Expr} {scope : Scope} {pos : Pos} {E : Value → Shared → Prop} {Q : Value → Shared → Prop} (I : Inv X pins σ H s) (B : LamX.TabB X.base X.mg c P) (hcode : X.env.code = .ref c)
    (hT : LamX.TabS H P (X.env.qual ++ "<lambda>")) (hdef : defaultsOf params X.env = ([], [])) (hfree : ∀ y ∈ scope.names, y.2 = .free → ∃ c, X.env.cells.lookup y.1 = some c)
    (k : ∀ (f c' : Addr) (H1 : Hp) (s' : Shared), Inv X pins σ H1 s' → (∀ b o, H b = some o → b ≠ P → H1 b = some o) → (∀ b, H1 b = none → H b = none) → LamX.TabS H1 P (X.env.qual ++ "<lambda>") → H f = none →
      H1 f = some (FnL f ⟨"<lambda>", X.env.qual ++ "<lambda>", params, [], scope, cloFrom X.env.cells scope.names [], c'⟩ body) → H1 c' = some (LamX.CodeO c' (X.env.qual ++ "<lambda>")) → Q (.ref f) s') :
    wpAny (model X.prog X.w) X.A (eval (.Lambda params body scope pos) X.env) Q E s := by
  obtain ⟨ps, tP, tok, tin⟩ := hT
  have bP : s.heap.BuiltinsAt X.mg P := B.bm.keeps I.bk
  have gP : s.heap.get? P = some { cls := .none, data := .fields ps } := I.hok P _ tP
  have none3 : ∀ {G : Hp} {x y z : Addr} {o u v : HO} {b : Addr}, upd (upd (upd G x o) y u) z v b = none → G b = none := fun {G x y z o u v b} q => by
    have r1 := q
    unfold upd at r1
    split at r1
    · cases r1
    split at r1
    · cases r1
    split at r1
    · cases r1
    exact r1
  refine PySem.W.kla_eval hdef ?_
  cases hc : codeAmong pos ps.toList with
  | some cv =>
    obtain ⟨c', e, hco⟩ := tin pos cv hc
    subst e
    refine PySem.W.kla_makeFunctionHit (mg := X.mg) (c := c) (P := P) (ps := ps) (closure_ok hfree) I.ok.glob (I.mod.glob.keeps I.bk) hcode (B.code.keeps I.bk) gP tok hc bP fun ctv h' tk hx hsz => ?_
    have I1 : Inv X pins σ H { s with heap := h', toks := tk } := I.kept hx
    have nF : H h'.objs.size = none := I1.hok.fresh (Nat.le_refl _)
    have I2 := inv_lam (F := ⟨"<lambda>", X.env.qual ++ "<lambda>", params, [], scope, cloFrom X.env.cells scope.names [], c'⟩) (e := body) (tk := tk) (pm := (X.mg "__name__").getD .none) (ctv := ctv) I1
    refine k h'.objs.size c' _ _ I2 (fun b o q _ => by rw [upd_ne (ne_of_none q nF)]; exact q) (fun b q => ?_) ⟨ps, by rw [upd_ne (ne_of_none tP nF)]; exact tP, tok, fun p' cv' q => ?_⟩ nF upd_same (by rw [upd_ne (ne_of_none hco nF)]; exact hco)
    · unfold upd at q
      split at q
      · cases q
      · exact q
    · obtain ⟨c0, e1, e2⟩ := tin p' cv' q
      exact ⟨c0, e1, by rw [upd_ne (ne_of_none e2 nF)]; exact e2⟩
  | none =>
    refine PySem.W.kla_makeFunction (mg := X.mg) (c := c) (P := P) (ps := ps) (closure_ok hfree) I.ok.glob (I.mod.glob.keeps I.bk) hcode (B.code.keeps I.bk) gP tok hc B.gP bP fun c' ctv h' tk hx hge hlt hrec htb => ?_
    obtain ⟨c2, oc, vs, t, e2, hoc, hd, hv⟩ := hrec
    cases e2
    have nC : H c' = none := I.hok.fresh hge
    have I1 := LamX.inv_table (t' := tk) (more := #[rawInt pos.line, rawInt pos.col, .ref c']) (h' := h') I tP (fun b o hb q => hx b o hb q) htb hge ⟨oc, vs, t, hoc, hd, hv⟩
    have nF := I1.hok.fresh (Nat.le_refl _)
    have I2 := inv_lam (F := ⟨"<lambda>", X.env.qual ++ "<lambda>", params, [], scope, cloFrom X.env.cells scope.names [], c'⟩) (e := body) (tk := tk) (pm := (X.mg "__name__").getD .none) (ctv := ctv) I1
    have fC : h'.objs.size ≠ c' := Nat.ne_of_gt hlt
    have pC : P ≠ c' := ne_of_none tP nC
    have nF0 : H h'.objs.size = none := I.hok.fresh (Nat.le_trans hge (Nat.le_of_lt hlt))
    have pF : P ≠ h'.objs.size := ne_of_none tP nF0
    have eL : (ps ++ #[rawInt pos.line, rawInt pos.col, .ref c']).toList = ps.toList ++ [rawInt pos.line, rawInt pos.col, .ref c'] := by simp
    have kk : ∀ b o, H b = some o → b ≠ P → upd (upd (upd H P (.tbl (ps ++ #[rawInt pos.line, rawInt pos.col, .ref c']))) c' (LamX.CodeO c' (X.env.qual ++ "<lambda>"))) h'.objs.size (FnL h'.objs.size ⟨"<lambda>", X.env.qual ++ "<lambda>", params, [], scope, cloFrom X.env.cells scope.names [], c'⟩ body) b = some o := fun b o q hb => by
      rw [upd_ne (ne_of_none q nF0), upd_ne (ne_of_none q nC), upd_ne hb]
      exact q
    refine k h'.objs.size c' _ _ I2 kk (fun b q => none3 q) ⟨_, by rw [upd_ne pF, upd_ne pC, upd_same], by rw [eL]; exact PySem.TriplesOk_snoc _ _ _ _ tok, fun p' cv q => ?_⟩ nF0 upd_same (by rw [upd_ne fC.symm, upd_same])
    rw [eL] at q
    rcases LamX.among_app _ tok q with z | z
    · obtain ⟨c0, e1, e2⟩ := tin p' cv z
      exact ⟨c0, e1, kk _ _ e2 (fun y => by rw [y, tP] at e2; exact LamX.codeO_ne ps (Option.some.inj e2).symm)⟩
    · exact ⟨c', z, by rw [upd_ne fC.symm, upd_same]⟩
end
section
variable {P : Program} {w : World} {K : PySem.W.Frag} {mg : Str → Option Value} {base : Heap}
end
end Lv
namespace TG
open PySem PySem.Spec PyProof.Rows L2
abbrev cellF (o : Obj) : HO := .frz o (.own 0)
def addC (H : Hp) (cl : List (Addr × Obj)) : Hp := fun b => match cl.lookup b with
  | some o => some (cellF o)
  | none => H b
def delC (H : Hp) (cl : List (Addr × Obj)) : Hp := fun b => match cl.lookup b with
  | some _ => none
  | none => H b
theorem addC_in {H : Hp} {cl : List (Addr × Obj)} {b : Addr} {o : Obj} (h : cl.lookup b = some o) : addC H cl b = some (cellF o) := by unfold addC; rw [h]
theorem addC_out {H : Hp} {cl : List (Addr × Obj)} {b : Addr} (h : cl.lookup b = none) : addC H cl b = H b := by unfold addC; rw [h]
theorem delC_in {H : Hp} {cl : List (Addr × Obj)} {b : Addr} {o : Obj} (h : cl.lookup b = some o) : delC H cl b = none := by unfold delC; rw [h]
theorem delC_out {H : Hp} {cl : List (Addr × Obj)} {b : Addr} (h : cl.lookup b = none) : delC H cl b = H b := by unfold delC; rw [h]
section
variable {P : Program} {w : World}
theorem objOk_congr {H1 H2 : Hp} {h : Heap} {a : Addr} (k : ∀ b o, H1 b = some o → (∀ u v, o ≠ .frz u v) → H2 b = some o) : ∀ u : HO, ObjOk P w H1 h a u → ObjOk P w H2 h a u
  | .lst _, x => x
  | .tup _, x => x
  | .dK _, x => x
  | .dT _, ⟨x1, x2, xs, x3, x4⟩ => ⟨x1, x2, xs, x3.mono fun p q ⟨e1, e2, e3⟩ => ⟨e1, k _ _ e2 (fun u v z => by cases z), e3⟩, x4⟩
  | .set _ _, x => x
  | .ins _ _ _, ⟨x1, x2⟩ => ⟨k _ _ x1 (fun u v z => by cases z), x2⟩
  | .own _, x => x
  | .xd _, x => x
  | .rng _ _, x => x
  | .frz _ u, ⟨x1, x2⟩ => ⟨x1, objOk_congr k u x2⟩
  | .tbl _, x => x
  | .met _ _, x => x
  | .ext _, x => x
/-- the cells stand as they are told, and were untold -/
structure CellsIn (cl : List (Addr × Obj)) (base : Heap) (fs : List Addr) (h : Heap) : Prop where
  at_ : ∀ c o, cl.lookup c = some o → h.get? c = some o ∧ base.get? c = none ∧ c ∉ fs
theorem hok_add {H : Hp} {h : Heap} {cl : List (Addr × Obj)} (hk : HOk P w H h) (n : ∀ c o, cl.lookup c = some o → H c = none ∧ h.get? c = some o) : HOk P w (addC H cl) h := fun a o e => by
  cases q : cl.lookup a with
  | some u =>
    rw [addC_in q] at e
    cases e
    exact ⟨(n a u q).2, ⟨u, (n a u q).2⟩⟩
  | none =>
    rw [addC_out q] at e
    refine objOk_congr (fun b v hb _ => ?_) o (hk a o e)
    cases r : cl.lookup b with
    | some u => rw [(n b u r).1] at hb; cases hb
    | none => rw [addC_out r]; exact hb
theorem hok_del {H : Hp} {h : Heap} {cl : List (Addr × Obj)} (hk : HOk P w H h) (n : ∀ c o, cl.lookup c = some o → H c = some (cellF o)) : HOk P w (delC H cl) h := fun a o e => by
  cases q : cl.lookup a with
  | some u => rw [delC_in q] at e; cases e
  | none =>
    rw [delC_out q] at e
    refine objOk_congr (fun b v hb nf => ?_) o (hk a o e)
    cases r : cl.lookup b with
    | some u =>
      rw [n b u r] at hb
      cases hb
      exact absurd rfl (nf _ _)
    | none => rw [delC_out r]; exact hb
variable {K : PySem.W.Frag} {mg : Str → Option Value} {base : Heap} {A : Around} {outer : List Env} {s s' : Shared}
/-- told of: as a callee finds it -/
theorem env_add {H : Hp} {cl : List (Addr × Obj)} (e0 : Env0 P w K mg base A outer s H) (C : CellsIn cl base (frs outer) s.heap) (n : ∀ c o, cl.lookup c = some o → H c = none) : Env0 P w K mg base A outer s (addC H cl) := by
  refine ⟨e0.frames, e0.mod, fun b o hb => ⟨(e0.bs b o hb).1, ?_⟩, e0.bsz, e0.funs, fun b hb => ?_, hok_add e0.hok fun c o q => ⟨n c o q, (C.at_ c o q).1⟩, e0.bare⟩
  · cases r : cl.lookup b with
    | some u => rw [(C.at_ b u r).2.1] at hb; cases hb
    | none => rw [addC_out r]; exact (e0.bs b o hb).2
  · cases r : cl.lookup b with
    | some u => exact absurd hb (C.at_ b u r).2.2
    | none => rw [addC_out r]; exact e0.frf b hb
/-- untold of: as the frame that has the cells finds it -/
theorem env_del {H : Hp} {cl : List (Addr × Obj)} (e0 : Env0 P w K mg base A outer s H) (n : ∀ c o, cl.lookup c = some o → H c = some (cellF o)) : Env0 P w K mg base A outer s (delC H cl) := by
  refine ⟨e0.frames, e0.mod, fun b o hb => ⟨(e0.bs b o hb).1, ?_⟩, e0.bsz, e0.funs, fun b hb => ?_, hok_del e0.hok n, e0.bare⟩
  · cases r : cl.lookup b with
    | some u => exact delC_in r
    | none => rw [delC_out r]; exact (e0.bs b o hb).2
  · cases r : cl.lookup b with
    | some u => exact delC_in r
    | none => rw [delC_out r]; exact e0.frf b hb
theorem un_del {fs : List Addr} {H H' : Hp} {h h' : Heap} {cl : List (Addr × Obj)} (u : Un fs [] (addC H cl) H' h h') (hk : HOk P w H' h') (n : ∀ c o, cl.lookup c = some o → H c = none ∧ h.get? c = some o ∧ c ∉ fs) : Un fs [] H (delC H' cl) h h' := by
  have told : ∀ c o, cl.lookup c = some o → H' c = some (cellF o) := fun c o q => u.frzs c o _ (addC_in q)
  have out : ∀ {b : Addr} {o : HO}, H b = some o → cl.lookup b = none := fun {b o} hb => by
    cases r : cl.lookup b with
    | some v => rw [(n b v r).1] at hb; cases hb
    | none => rfl
  refine ⟨fun b o hb nb hf hx => ?_, fun b o hb nb hf hx => ?_, fun b o hb nb hx => ?_, fun b o hb hx => u.there b o hb hx, fun b xs hb => ?_, fun b o v hb => ?_, fun b ps hb => ?_⟩
  · cases r : cl.lookup b with
    | some v =>
      rw [(n b v r).2.1] at hb
      cases hb
      exact (hk b _ (told b _ r)).1
    | none => exact u.keep b o hb (by rw [addC_out r]; exact nb) hf hx
  · cases r : cl.lookup b with
    | some v => exact absurd hf (n b v r).2.2
    | none => exact u.slot b o hb (by rw [addC_out r]; exact nb) hf hx
  · cases r : cl.lookup b with
    | some v => exact delC_in r
    | none => rw [delC_out r]; exact u.free b o hb (by rw [addC_out r]; exact nb) hx
  · rw [delC_out (out hb)]
    exact u.tups b xs (by rw [addC_out (out hb)]; exact hb)
  · rw [delC_out (out hb)]
    exact u.frzs b o v (by rw [addC_out (out hb)]; exact hb)
  · obtain ⟨more, q⟩ := u.tbls b ps (by rw [addC_out (out hb)]; exact hb)
    exact ⟨more, by rw [delC_out (out hb)]; exact q⟩
/-- back from a callee that was told of the cells -/
theorem ce_del {H : Hp} {cl : List (Addr × Obj)} {Q : VK} {u : Value} (C : CellsIn cl base (frs outer) s.heap) (n : ∀ c o, cl.lookup c = some o → H c = none) (h : CE outer P w (addC H cl) s (fun v H' => (∀ c o, cl.lookup c = some o → H' c = some (cellF o)) → Q v (delC H' cl)) u s') : CE outer P w H s Q u s' := by
  obtain ⟨v, H', h1, h2, un, hk, r, q⟩ := h
  have told : ∀ c o, cl.lookup c = some o → H' c = some (cellF o) := fun c o e => un.frzs c o _ (addC_in e)
  exact ⟨v, delC H' cl, h1, h2, un_del un hk (fun c o e => ⟨n c o e, (C.at_ c o e).1, (C.at_ c o e).2.2⟩), hok_del hk told, r, q told⟩
theorem un_add {fs : List Addr} {H H' : Hp} {h h' : Heap} {cl : List (Addr × Obj)} (u : Un fs [] (delC H cl) H' h h') (n : ∀ c o, cl.lookup c = some o → H c = some (cellF o) ∧ h.get? c = some o ∧ c ∉ fs) : Un fs [] H (addC H' cl) h h' := by
  have frz : ∀ {b : Addr} {o : HO}, H b = some o → (∀ a v, o ≠ .frz a v) → cl.lookup b = none := fun {b o} hb nf => by
    cases r : cl.lookup b with
    | some v =>
      rw [(n b v r).1] at hb
      cases hb
      exact absurd rfl (nf _ _)
    | none => rfl
  refine ⟨fun b o hb nb hf hx => ?_, fun b o hb nb hf hx => ?_, fun b o hb nb hx => ?_, fun b o hb hx => u.there b o hb hx, fun b xs hb => ?_, fun b o v hb => ?_, fun b ps hb => ?_⟩
  · cases r : cl.lookup b with
    | some v => rw [(n b v r).1] at nb; cases nb
    | none => exact u.keep b o hb (by rw [delC_out r]; exact nb) hf hx
  · cases r : cl.lookup b with
    | some v => rw [(n b v r).1] at nb; cases nb
    | none => exact u.slot b o hb (by rw [delC_out r]; exact nb) hf hx
  · cases r : cl.lookup b with
    | some v => rw [(n b v r).1] at nb; cases nb
    | none => rw [addC_out r]; exact u.free b o hb (by rw [delC_out r]; exact nb) hx
  · have r := frz hb fun a v z => by cases z
    rw [addC_out r]
    exact u.tups b xs (by rw [delC_out r]; exact hb)
  · cases r : cl.lookup b with
    | some q =>
      rw [(n b q r).1] at hb
      rw [addC_in r]
      exact hb
    | none =>
      rw [addC_out r]
      exact u.frzs b o v (by rw [delC_out r]; exact hb)
  · have r := frz hb fun a v z => by cases z
    obtain ⟨more, q⟩ := u.tbls b ps (by rw [delC_out r]; exact hb)
    exact ⟨more, by rw [addC_out r]; exact q⟩
/-- behind the frame that has the cells: they are told of again -/
theorem ce_add {H : Hp} {cl : List (Addr × Obj)} {Q : VK} {u : Value} (hk0 : HOk P w H s.heap) (n : ∀ c o, cl.lookup c = some o → H c = some (cellF o) ∧ c ∉ frs outer) (h : CE outer P w (delC H cl) s (fun v H' => (∀ c o, cl.lookup c = some o → H' c = none) → Q v (addC H' cl)) u s') : CE outer P w H s Q u s' := by
  obtain ⟨v, H', h1, h2, un, hk, r, q⟩ := h
  have at0 : ∀ c o, cl.lookup c = some o → s.heap.get? c = some o := fun c o e => (hk0 c _ (n c o e).1).1
  refine ⟨v, addC H' cl, h1, h2, un_add un fun c o e => ⟨(n c o e).1, at0 c o e, (n c o e).2⟩, hok_add hk fun c o e => ?_, r, q fun c o e => un.free c o (at0 c o e) (delC_in e) (by simp)⟩
  exact ⟨un.free c o (at0 c o e) (delC_in e) (by simp), un.keep c o (at0 c o e) (delC_in e) (n c o e).2 (by simp)⟩
theorem cx_add {H : Hp} {cl : List (Addr × Obj)} {E : XK} {u : Value} (hk0 : HOk P w H s.heap) (n : ∀ c o, cl.lookup c = some o → H c = some (cellF o) ∧ c ∉ frs outer) (h : L2.CX P w outer (delC H cl) s (fun cls d H' => (∀ c o, cl.lookup c = some o → H' c = none) → E cls d (addC H' cl)) u s') : L2.CX P w outer H s E u s' := by
  obtain ⟨a, B, H', cls, d, e1, fly, hk, ub, na, h1, h2, q⟩ := h
  have at0 : ∀ c o, cl.lookup c = some o → s.heap.get? c = some o := fun c o e => (hk0 c _ (n c o e).1).1
  have atB : ∀ c o, cl.lookup c = some o → B.get? c = some o := fun c o e => ub.keep c o (at0 c o e) (delC_in e) (n c o e).2
  have frz : ∀ {b : Addr} {o : HO}, H b = some o → (∀ a v, o ≠ .frz a v) → cl.lookup b = none := fun {b o} hb nf => by
    cases r : cl.lookup b with
    | some v =>
      rw [(n b v r).1] at hb
      cases hb
      exact absurd rfl (nf _ _)
    | none => rfl
  refine ⟨a, B, addC H' cl, cls, d, e1, fly, hok_add hk fun c o e => ⟨ub.free c o (at0 c o e) (delC_in e), atB c o e⟩, ⟨fun b o hb nb hf => ?_, ub.slot, fun b o hb nb => ?_, ub.there, fun b xs hb => ?_, fun b o v hb => ?_, fun b ps hb => ?_⟩, ?_, h1, h2, q fun c o e => ub.free c o (at0 c o e) (delC_in e)⟩
  · cases r : cl.lookup b with
    | some v => rw [(n b v r).1] at nb; cases nb
    | none => exact ub.keep b o hb (by rw [delC_out r]; exact nb) hf
  · cases r : cl.lookup b with
    | some v => rw [(n b v r).1] at nb; cases nb
    | none => rw [addC_out r]; exact ub.free b o hb (by rw [delC_out r]; exact nb)
  · have r := frz hb fun a v z => by cases z
    rw [addC_out r]
    exact ub.tups b xs (by rw [delC_out r]; exact hb)
  · cases r : cl.lookup b with
    | some q =>
      rw [(n b q r).1] at hb
      rw [addC_in r]
      exact hb
    | none =>
      rw [addC_out r]
      exact ub.frzs b o v (by rw [delC_out r]; exact hb)
  · have r := frz hb fun a v z => by cases z
    obtain ⟨more, q⟩ := ub.tbls b ps (by rw [delC_out r]; exact hb)
    exact ⟨more, by rw [addC_out r]; exact q⟩
  · cases r : cl.lookup a with
    | some v =>
      have z := fly.2.1
      rw [atB a v r] at z
      cases z
    | none => rw [addC_out r]; exact na
end
end TG
namespace TG
open PySem PySem.Spec PyProof.Rows L2 NdefX GenW Gx Lv
/-- the captured names' cells, told of, hold these values -/
structure Caught (F : NF) (fr : List Str) (ws : List (Option V)) (cl : List (Addr × Obj)) (H : Hp) : Prop where
  len : ws.length = fr.length
  told : ∀ c o, cl.lookup c = some o → H c = some (cellF o)
  all : ∀ y c, F.cl.lookup y = some c → ∃ o v, cl.lookup c = some o ∧ o.data = .cell v
  inj : ∀ x y c, F.cl.lookup x = some c → F.cl.lookup y = some c → x = y
  has : ∀ (i : Nat) (y : Str), fr[i]? = some y → ∃ c, F.cl.lookup y = some c ∧ ∀ v, ws[i]? = some (some v) → ∃ o u, cl.lookup c = some o ∧ o.data = .cell (some u) ∧ RelV v u
section
variable {P : Program} {w : World} {K : PySem.W.Frag} {mg : Str → Option Value} {base : Heap}
structure LOkX (P : Program) (w : World) (K : PySem.W.Frag) (mg : Str → Option Value) (base : Heap) (k : Nat) (f : Addr) (F : NF) (e : Expr) (sp : Sp) : Prop where
  run : ∀ (A : Around) (outer : List Env) (s : Shared) (H : Hp) (Q : VK) (E : XK), Room k A → Env0 P w K mg base A outer s H → H f = some (FnL f F e) → H F.c = some (LamX.CodeO F.c F.qual) → sp [] H Q E →
    codeAny (model P w) A (.call (.ref f) ⟨[], []⟩) (CR (L2.CX P w) outer P w H s Q E) s
theorem lokx_of {k : Nat} {f : Addr} {F : NF} {e : Expr} {N fr : List Str} {sp : Sp} (S : NScope N [] fr F.scope) (hb : ∀ (pm ctv : Value), bindArgs (PySem.W.kla_fn F.name F.qual F.params e F.scope F.cl pm (.ref F.c) ctv) ⟨[], []⟩ = pure [])
    (hbody : ∀ (A : Around) (outer : List Env) (s : Shared) (H : Hp) (Q : VK) (E : XK), Room k (A.deeper (envF F f s.heap.objs.size)) → sp [] H Q E → ∃ (ws : List (Option V)) (cl : List (Addr × Obj)) (t : TE), Caught F fr ws cl H ∧
      PE (ncx (L2.CX P w) P w K mg base N F f A outer s (delC H cl) (fun cls d H' => (∀ c o, cl.lookup c = some o → H' c = none) → E cls d (addC H' cl))) e t ∧ t (startF N [] ws) (delC H cl) (fun v H' => (∀ c o, cl.lookup c = some o → H' c = none) → Q v (addC H' cl))) :
    LOkX P w K mg base (k + 1) f F e sp := by
  refine ⟨fun A outer s H Q E hr e0 hf hc hsp => ?_⟩
  have lim : s.heap.NoLimit := e0.mod.nolimit.keeps fun b o q => (e0.bs b o q).1
  obtain ⟨od, sl, pm, ctv, ho⟩ := fnL_at e0.hok hf
  obtain ⟨ws, cl, t, C, ht, hq⟩ := hbody A outer s H Q E (hr.deeper _) hsp
  have hnf : ∀ c o, cl.lookup c = some o → c ∉ frs outer := fun c o q hb => by
    have z := e0.frf c hb
    rw [C.told c o q] at z
    cases z
  have at0 : ∀ c o, cl.lookup c = some o → s.heap.get? c = some o := fun c o q => (e0.hok c _ (C.told c o q)).1
  refine codeAny_mono (R := CR (L2.CX P w) outer P w (delC H cl) s (fun v H' => (∀ c o, cl.lookup c = some o → H' c = none) → Q v (addC H' cl)) (fun cls d H' => (∀ c o, cl.lookup c = some o → H' c = none) → E cls d (addC H' cl))) ?_ fun r s' q => ?_
  · have e1 := env_del e0 C.told
    refine PySem.W.kla_callFunE hr.depth ho rfl S.co S.gen rfl (codeO_at e0.hok hc) ?_
    rw [hb pm ctv]
    refine wpAny_pure (wpAny_newFunctionEnv S.nocell (fun ⟨n, _⟩ hy => by cases hy) (fun h₁ hns hsb => ⟨lim.fresh _ hsb, ?_⟩) S.kind)
    have kp : ∀ b o, s.heap.get? b = some o → h₁.get? b = some o := fun b o q => hsb.extBut b o (Nat.ne_of_lt (Heap.lt_size q)) (Heap.get?_push_of_some _ q)
    have CA : NdefX.CellsAt F.cl fr ws s.heap (delC H cl) := by
      refine ⟨C.len, fun y c q => ?_, C.inj, fun i y q => ?_⟩
      · obtain ⟨o, v, h1, h2⟩ := C.all y c q
        exact ⟨delC_in h1, v, o, at0 c o h1, h2⟩
      · obtain ⟨c, h1, h2⟩ := C.has i y q
        refine ⟨c, h1, fun v hv => ?_⟩
        obtain ⟨o, u, h3, h4, h5⟩ := h2 v hv
        exact ⟨u, h5, o, at0 c o h3, h4⟩
    have I := inv_startN (CX := L2.CX P w) (P := P) (w := w) (E := fun cls d H' => (∀ c o, cl.lookup c = some o → H' c = none) → E cls d (addC H' cl)) (f := f) (tk := s.toks + (([] : List Str).zip ([] : List Value)).length) S hr.hd e1 (vs := []) (us := []) rfl .nil CA hns kp
    refine PySem.W.kla_codeExpr (wpAny_mono (ht.run [] _ (startF N [] ws) (delC H cl) _ I hq) (fun v s' q => ?_) fun e' s' q => q)
    obtain ⟨w', H', J, rv, q⟩ := q
    exact ⟨w', H', J.os, J.bare, J.base, J.hok, rv, q⟩
  · cases r with
    | error er => exact cx_add e0.hok (fun c o q => ⟨C.told c o q, hnf c o q⟩) q
    | ok fl =>
      cases fl with
      | ret u => exact ce_add e0.hok (fun c o q => ⟨C.told c o q, hnf c o q⟩) q
      | next => exact False.elim q
      | brk => exact False.elim q
      | cont => exact False.elim q
end
end TG
namespace TG
open PySem PySem.Spec PyProof.Rows L2 NdefX GenW Gx Lv
structure ToldC (cells : List (Str × Addr)) (N names : List Str) (σ : L2.St) (cl : List (Addr × Obj)) : Prop where
  all : ∀ y ∈ names, ∃ c o v, cells.lookup y = some c ∧ cl.lookup c = some o ∧ o.data = .cell v
  val : ∀ y ∈ names, ∀ c o, cells.lookup y = some c → cl.lookup c = some o → ∀ (i : Nat) (v : V), N[i]? = some y → σ[i]? = some (some v) → ∃ u, o.data = .cell (some u) ∧ RelV v u
  inj : ∀ y z c, cells.lookup y = some c → cells.lookup z = some c → y = z
theorem cells_list {h : Heap} {cells : List (Str × Addr)} : ∀ names : List Str, (∀ y ∈ names, ∃ c v, cells.lookup y = some c ∧ h.IsCell c v) →
    ∃ cl : List (Addr × Obj), (∀ c o, cl.lookup c = some o → h.get? c = some o ∧ ∃ y ∈ names, cells.lookup y = some c) ∧ ∀ y ∈ names, ∀ c, cells.lookup y = some c → ∃ o, cl.lookup c = some o
  | [], _ => ⟨[], ⟨fun c o e => by simp at e, fun y hy => by simp at hy⟩⟩
  | y :: names, k => by
    obtain ⟨cl, h1, h2⟩ := cells_list names fun z hz => k z (List.mem_cons_of_mem _ hz)
    obtain ⟨c, v, e1, o, e2, _⟩ := k y List.mem_cons_self
    refine ⟨(c, o) :: cl, fun c' o' e => ?_, fun z hz c' e => ?_⟩
    · rw [List.lookup_cons] at e
      by_cases q : c' = c
      · rw [q, beq_self_eq_true] at e
        cases e
        rw [q]
        exact ⟨e2, y, List.mem_cons_self, e1⟩
      · rw [beq_false_of_ne q] at e
        obtain ⟨g1, z, hz, g2⟩ := h1 c' o' e
        exact ⟨g1, z, List.mem_cons_of_mem _ hz, g2⟩
    · rw [List.lookup_cons]
      by_cases q : c' = c
      · rw [q, beq_self_eq_true]
        exact ⟨o, rfl⟩
      · rw [beq_false_of_ne q]
        rcases List.mem_cons.mp hz with r | r
        · rw [r, e1] at e
          exact absurd (Option.some.inj e).symm q
        · exact h2 z r c' e
def tCallC (cells : List (Str × Addr)) (N names : List Str) (sp : Sp) (t : TA) : TE := fun σ H Q => t σ H fun vs H1 => ∀ cl : List (Addr × Obj), ToldC cells N names σ cl → (∀ c o, cl.lookup c = some o → H1 c = none) →
  sp vs (addC H1 cl) (fun v H' => (∀ c o, cl.lookup c = some o → H' c = some (cellF o)) → Q v (delC H' cl)) (fun _ _ _ => False)
theorem pe_callC {X : Cx} {names : List Str} {k : Nat} {f : Addr} {fd : FuncData} {ps : List Str} {sp : Sp} {x : Str} {p pos : Pos} {e : Expr} {es : List Expr} {t : TA} (F : FnOk X.prog X.w X.K X.mg X.base CX0 k f fd ps sp) (hr : Room k X.A) (hg : Gl X x) (hm : X.mg x = some (.ref f)) (hk : PySem.W.keepIn X.K (.ref f) = true) (hb : Binds X.K fd ps [])
    (hfn : ∀ y ∈ names, X.fn y = true) (hcell : ∀ y ∈ names, X.env.kindOf y = some .cell) (ha : PA X (e :: es) t) (hdb : (x == ("__debug__" : Str)) = false := by decide) (he : starEach (e :: es) X.env = (false, eval e X.env) :: starEach es X.env := by rfl) (hpl : (backTo pos (starEach es X.env)).any (·.1) = false := by rfl) :
    PE X (.Call (.Name x p) (e :: es) [] pos) (tCallC X.env.cells X.N names sp t) := by
  refine ⟨fun pins s σ H Q I h => ?_⟩
  refine wpAny_Call_Name_kw (ld_glob I hg hm ?_ hdb)
  refine PySem.W.callWith_K (h₀ := X.base) I.ok.mod.kin hk (thn (ha.run pos pins s σ H _ I h) fun us s1 ⟨vs, H1, I1, r, q⟩ => ⟨I1.kIn, ?_⟩) he hpl
  show wpAny _ _ (call (.ref f) us) _ _ _
  have has : ∀ y ∈ names, ∃ c v, X.env.cells.lookup y = some c ∧ s1.heap.IsCell c v := fun y hy => by
    obtain ⟨c, hc⟩ := I1.ok.has y (.inl (hcell y hy))
    obtain ⟨v, hv⟩ := I1.cell y c hc
    exact ⟨c, v, hc, hv⟩
  obtain ⟨cl, c1, c2⟩ := cells_list names has
  have un : ∀ c o, cl.lookup c = some o → H1 c = none := fun c o e => by
    obtain ⟨_, y, _, hc⟩ := c1 c o e
    exact I1.freeC y c hc
  have C : CellsIn cl X.base (frs X.stack) s1.heap := ⟨fun c o e => by
    obtain ⟨g1, y, hy, hc⟩ := c1 c o e
    have ge := I1.ok.cab y c (hfn y hy) hc
    refine ⟨g1, ?_, fun hin => ?_⟩
    · cases z : X.base.get? c with
      | none => rfl
      | some u => exact absurd (Nat.lt_of_lt_of_le (Heap.lt_size (I1.ok.bs c u z).1) ge) (Nat.lt_irrefl _)
    · rcases List.mem_cons.mp (I1.stkSub c hin) with z | z
      · obtain ⟨m, hn, _⟩ := I1.loc
        obtain ⟨v, o2, q1, q2⟩ := I1.cell y c hc
        rw [z] at q1
        obtain ⟨o3, es3, ep3, q3, q4, _⟩ := hn
        rw [q1] at q3
        cases q3
        rw [q2] at q4
        cases q4
      · obtain ⟨_, o2, q1, _⟩ := I1.ok.funs.mem z
        exact absurd (Nat.lt_of_lt_of_le (Heap.lt_size q1) ge) (Nat.lt_irrefl _)⟩
  have T : ToldC X.env.cells X.N names σ cl := by
    refine ⟨fun y hy => ?_, fun y hy c o hc ho i v hN hs => ?_, I1.ok.inj⟩
    · obtain ⟨c, hc⟩ := I1.ok.has y (.inl (hcell y hy))
      obtain ⟨v, o2, q1, q2⟩ := I1.cell y c hc
      obtain ⟨o, ho⟩ := c2 y hy c hc
      have z := (c1 c o ho).1
      rw [q1] at z
      cases z
      exact ⟨c, _, v, hc, ho, q2⟩
    · obtain ⟨m, hn, loc⟩ := I1.loc
      obtain ⟨u, ru, lk⟩ := loc i y v hN hs (.inr (.inl (hcell y hy)))
      rcases lk with ⟨z, _⟩ | ⟨_, c', hc', o2, q1, q2⟩
      · rw [hcell y hy] at z; cases z
      · rw [hc] at hc'
        cases hc'
        have z := (c1 c o ho).1
        rw [q1] at z
        cases z
        exact ⟨u, q2, ru⟩
  have sq := q cl T un
  have hl : (us ++ []).length = ps.length := by rw [List.append_nil, ← r.length]; exact F.len _ _ _ _ sq
  have e1 := env_add I1.env0 C un
  have bd := hb s1 us I1.kIn hl
  rw [List.append_nil] at bd
  refine wpAny_call (codeAny_mono (F.run X.A X.stack s1 (addC H1 cl) ⟨us, []⟩ us vs _ _ hr e1 bd r sq) fun r' s' hq => ?_)
  cases r' with
  | error er => exact False.elim hq
  | ok fl =>
    cases fl with
    | ret u => exact I1.after (ce_del C un hq)
    | next => exact False.elim hq
    | brk => exact False.elim hq
    | cont => exact False.elim hq
end TG
namespace TG
open PySem PySem.Spec PyProof.Rows L2 NdefX GenW Gx Lv
/-- the reading of a lambda that captures cells of the frame -/
def tLamC (P : Addr) (q : Str) (params : Arguments) (body : Expr) (scope : Scope) (cl : List (Str × Addr)) : TE := fun _ H Q => LamX.TabS H P q ∧ ∀ (f c' : Addr) (H1 : Hp), (∀ b o, H b = some o → b ≠ P → H1 b = some o) → (∀ b, H1 b = none → H b = none) → LamX.TabS H1 P q → H f = none →
  H1 f = some (FnL f ⟨"<lambda>", q, params, [], scope, cl, c'⟩ body) → H1 c' = some (LamX.CodeO c' q) → Q (.ref f) H1
theorem pe_lamC {X : Cx} {c P : Addr} {params : Arguments} {body : Expr} {scope : Scope} {pos : Pos} (B : LamX.TabB X.base X.mg c P) (hcode : X.env.code = .ref c) (hdef : defaultsOf params X.env = ([], []))
    (hfr : ∀ y ∈ scope.names, y.2 = .free → X.env.kindOf y.1 = some .cell ∨ X.env.kindOf y.1 = some .free) :
    PE X (.Lambda params body scope pos) (tLamC P (X.env.qual ++ "<lambda>") params body scope (cloFrom X.env.cells scope.names [])) := by
  refine ⟨fun pins s σ H Q I h => ?_⟩
  obtain ⟨hT, h⟩ := h
  exact lam_val I B hcode hT hdef (fun y hy e => I.ok.has _ (hfr y hy e)) fun f c' H1 s' J k1 k2 t1 nf hf hc => ⟨.ref f, H1, J, rfl, h f c' H1 k1 k2 t1 nf hf hc⟩
end TG
namespace TG
open PySem PySem.Spec PyProof.Rows L2 Gx
theorem fold_one (c : Nat) : ∀ (n : Nat) (acc : Array Nat), (List.replicate n (#[c] : Array Nat)).foldl (fun a b => a ++ b) acc = acc ++ (List.replicate n c).toArray
  | 0, acc => by simp
  | n + 1, acc => by
    rw [List.replicate_succ, List.foldl_cons, fold_one c n]
    apply Array.toList_inj.mp
    simp [List.replicate_succ]
def repS (c : Nat) (n : Nat) : Str := ⟨(List.replicate n c).toArray⟩
theorem cl_repS (c n : Nat) : cl (repS c n) = List.replicate n c := by simp [cl, repS]
section
variable {X : Cx}
def rRepS : V → V → Hp → VK → Prop := fun x y H Q => ∃ (c : Nat) (n : Int), x = .str ⟨#[c]⟩ ∧ y = .int n ∧ 0 ≤ n ∧ n ≤ 1000 ∧ Q (.str (repS c n.toNat)) H
theorem op_repS : OpR X (binaryOp .Mult) rRepS := by
  intro pins s σ H x y v u Q I rx ry h
  obtain ⟨c, n, rfl, rfl, h0, h1, q⟩ := h
  obtain ⟨t, rfl⟩ := rx
  obtain ⟨t', rfl⟩ := ry
  have hs : ((⟨#[c]⟩ : Str).length) = 1 := rfl
  refine PySem.P.mul_str ?_ (fun _ _ => ?_) (fun _ _ => ?_) ?_
  · rw [decide_eq_false (by omega), decide_eq_false (by omega)]
    rfl
  · rw [hs]
    have : (1 : Int) ≤ (2 ^ 63 - 1) / n := Int.le_ediv_of_mul_le (by omega) (by omega)
    omega
  · rw [hs, Nat.one_mul]
    have sz : (1000 : Nat) < sizeLine := by decide
    exact decide_eq_false (by omega)
  · by_cases e : n < 1
    · rw [if_pos e]
      have e0 : n = 0 := by omega
      subst e0
      exact ⟨by decide, .str (repS c (0 : Int).toNat), H, I.tok _, ⟨_, rfl⟩, q⟩
    · rw [if_neg e]
      by_cases e1 : n = 1
      · subst e1
        rw [if_pos (by rfl)]
        exact (⟨.str (repS c (1 : Int).toNat), H, I, ⟨_, rfl⟩, q⟩ : EP X pins σ Q _ _)
      · rw [if_neg (by rw [hs]; simp [e1])]
        have hf : (⟨(List.replicate n.toNat (#[c] : Array Nat)).foldl (· ++ ·) #[]⟩ : Str) = repS c n.toNat := by
          unfold repS
          rw [fold_one]
          simp
        show Made.post (.str ⟨(List.replicate n.toNat (#[c] : Array Nat)).foldl (· ++ ·) #[]⟩) _ _
        rw [hf]
        have sz : (1000 : Nat) < sizeLine := by decide
        have hl : (repS c n.toNat).length = n.toNat := by unfold repS; simp [Str.length]
        exact ⟨by omega, .str (repS c n.toNat), H, I.tok _, ⟨_, rfl⟩, q⟩
end
end TG
namespace TG
open PySem PySem.Spec PyProof.Rows L2 Gx
/-! ### texts of pages -/
abbrev tabS : Str := "\t"
abbrev lineS : Str := "\n"
def rowT (r : List Str) : Str := Txt.join tabS r
def pageT (rows : List (List Str)) : Str := Txt.join lineS (rows.map rowT)
theorem cl_tabS : cl tabS = [9] := by decide +kernel
theorem cl_lineS : cl lineS = [10] := by decide +kernel
theorem cl_joinL (y : Str) (ps : List Str) : cl (Txt.join y ps) = TL.joinL (cl y) (ps.map cl) := by
  rw [TL.join_eq]
  exact TL.tl_join y ps
theorem joinL_mem (S : List Nat) : ∀ (ps : List (List Nat)) (c : Nat), c ∈ TL.joinL S ps → c ∈ S ∨ ∃ p ∈ ps, c ∈ p
  | [], c, h => by cases h
  | [p], c, h => .inr ⟨p, by simp, h⟩
  | p :: q :: r, c, h => by
    have h : c ∈ p ++ (S ++ TL.joinL S (q :: r)) := h
    rcases List.mem_append.mp h with h | h
    · exact .inr ⟨p, by simp, h⟩
    rcases List.mem_append.mp h with h | h
    · exact .inl h
    rcases joinL_mem S (q :: r) c h with h | ⟨x, hx, hc⟩
    · exact .inl h
    · exact .inr ⟨x, by simp at hx ⊢; exact .inr hx, hc⟩
theorem joinL_len (S : List Nat) (m : Nat) : ∀ (ps : List (List Nat)), (∀ p ∈ ps, p.length ≤ m) → (TL.joinL S ps).length ≤ ps.length * (m + S.length)
  | [], _ => Nat.zero_le _
  | [p], h => by
    have := h p (by simp)
    show p.length ≤ 1 * (m + S.length)
    omega
  | p :: q :: r, h => by
    have h1 := h p (by simp)
    have h2 := joinL_len S m (q :: r) fun x hx => h x (by simp at hx ⊢; exact .inr hx)
    show (p ++ (S ++ TL.joinL S (q :: r))).length ≤ ((q :: r).length + 1) * (m + S.length)
    rw [List.length_append, List.length_append, Nat.add_mul]
    omega
theorem rowT_sg {r : List Str} (h : RowOk r) : ∀ c ∈ cl (rowT r), c = 9 ∨ SgOk c := by
  intro c hc
  unfold rowT at hc
  rw [cl_joinL, cl_tabS] at hc
  rcases joinL_mem _ _ _ hc with h1 | ⟨p, hp, h1⟩
  · exact .inl (by simpa using h1)
  · obtain ⟨z, hz, rfl⟩ := List.mem_map.mp hp
    exact .inr ((h.3 z hz).2 c h1)
theorem rowT_len {r : List Str} (h : RowOk r) : (rowT r).length ≤ 66 := by
  rw [len_cl]
  unfold rowT
  rw [cl_joinL]
  have := joinL_len (cl tabS) 10 (r.map cl) fun p hp => by
    obtain ⟨z, hz, rfl⟩ := List.mem_map.mp hp
    have := (h.3 z hz).1
    rw [← len_cl]
    exact this
  rw [List.length_map, cl_tabS, show ([9] : List Nat).length = 1 from rfl] at this
  rw [cl_tabS]
  have := h.2
  omega
theorem pageT_len {rows : List (List Str)} (h : PgOk rows) : (pageT rows).length ≤ 2010 := by
  rw [len_cl]
  unfold pageT
  rw [cl_joinL]
  have := joinL_len (cl lineS) 66 ((rows.map rowT).map cl) fun p hp => by
    obtain ⟨z, hz, rfl⟩ := List.mem_map.mp hp
    obtain ⟨r, hr, rfl⟩ := List.mem_map.mp hz
    rw [← len_cl]
    exact rowT_len (h.rows r hr)
  rw [List.length_map, List.length_map, cl_lineS, show ([10] : List Nat).length = 1 from rfl] at this
  rw [cl_lineS]
  have := h.len
  omega
theorem split_row {r : List Str} (h : RowOk r) : Txt.split (rowT r) tabS = r := by
  refine TL.split_join (s := 9) (S := []) cl_tabS (by decide +kernel) ?_ fun p hp q => ?_
  · intro e
    have := h.1
    rw [e] at this
    simp at this
  · have q : 9 ∈ cl p := q
    have := (h.3 p hp).2 9 q
    unfold SgOk at this
    omega
theorem split_page {rows : List (List Str)} (h : PgOk rows) : Txt.split (pageT rows) lineS = rows.map rowT := by
  refine TL.split_join (s := 10) (S := []) cl_lineS (by decide +kernel) ?_ fun p hp q => ?_
  · intro e
    have := h.pos
    have e2 := congrArg List.length e
    rw [List.length_map] at e2
    simp at e2
    rw [e2] at this
    simp at this
  · obtain ⟨r, hr, rfl⟩ := List.mem_map.mp hp
    have q : 10 ∈ cl (rowT r) := q
    rcases rowT_sg (h.rows r hr) 10 q with e | e
    · omega
    · unfold SgOk at e
      omega
theorem kind_min1 (y : Str) (hy : Builtin.Str.strKind y = 1) (x : Str) : ¬ Builtin.Str.strKind x < Builtin.Str.strKind y := by
  rw [hy]
  unfold Builtin.Str.strKind
  split
  · decide
  · split <;> decide
theorem splLenT (S : List Nat) : ∀ (l acc : List Nat) (k : Nat) (p : List Nat), p ∈ TL.spl S k acc l → p.length ≤ acc.length + l.length
  | [], acc, k, p, h => by
    unfold TL.spl at h
    rw [List.mem_singleton] at h
    rw [h]
    exact Nat.le_add_right _ _
  | c :: r, acc, 0, p, h => by
    unfold TL.spl at h
    rw [List.length_cons]
    split at h
    · rcases List.mem_cons.mp h with z | z
      · rw [z]; omega
      · have := splLenT S r [] _ p z
        simp at this
        omega
    · have := splLenT S r _ _ p h
      rw [List.length_append, List.length_singleton] at this
      omega
  | c :: r, acc, k + 1, p, h => by
    unfold TL.spl at h
    have := splLenT S r _ _ p h
    rw [List.length_cons]
    omega
theorem split_clL (z y : Str) (h0 : cl y ≠ []) (hy : Builtin.Str.strKind y = 1) : (Txt.split z y).map cl = TL.spl (cl y) 0 [] (cl z) :=
  TL.split_spl z y h0 (kind_min1 y hy z)
theorem split_pieceL {z y p : Str} (h0 : cl y ≠ []) (hy : Builtin.Str.strKind y = 1) (h : p ∈ Txt.split z y) : p.length ≤ z.length := by
  have h2 : cl p ∈ TL.spl (cl y) 0 [] (cl z) := by rw [← split_clL z y h0 hy]; exact List.mem_map_of_mem h
  have := splLenT (cl y) _ _ _ _ h2
  simpa [cl, Str.length] using this
theorem kind_line : Builtin.Str.strKind lineS = 1 := by decide +kernel
theorem kind_tab : Builtin.Str.strKind tabS = 1 := by decide +kernel
/-- the rows of a text -/
def rowsT (z : Str) : List (List Str) := (Txt.split z lineS).map fun l => Txt.split l tabS
theorem rowsT_page {rows : List (List Str)} (h : PgOk rows) : rowsT (pageT rows) = rows := by
  unfold rowsT
  rw [split_page h, List.map_map]
  conv => rhs; rw [← List.map_id rows]
  apply List.map_congr_left
  intro r hr
  exact split_row (h.rows r hr)
structure RowsAt (ps : List Addr) (rows : List (List Str)) (H : Hp) : Prop where
  len : ps.length = rows.length
  row : ∀ (i : Nat) (q : Addr) (z : List Str), ps[i]? = some q → rows[i]? = some z → H q = some (.tup (sV z))
def rTupT (K : PySem.W.Frag) : List V → Hp → VK → Prop := fun xs H Q => ∃ p ys, xs = [V.ref p] ∧ ((SqL K H p ys ∧ ∀ l, H l = none → Q (.ref l) (upd H l (.tup ys))) ∨ (SqT K H p ys ∧ Q (.ref p) H))
def rJoin (K : PySem.W.Frag) : V → List V → Hp → VK → Prop := fun x xs H Q => ∃ a p, ∃ ys : List Str, x = .str a ∧ xs = [.ref p] ∧ (SqL K H p (ys.map V.str) ∨ SqT K H p (ys.map V.str)) ∧ (ys.map (·.length)).sum + ys.length * a.length ≤ 16777216 ∧ Q (.str (Txt.join a ys)) H
section
variable {P : Program} {w : World} {K : PySem.W.Frag} {mg : Str → Option Value} {base : Heap} {cs : List (Addr × Addr)}
def spRowsOf (cs : List (Addr × Addr)) : Sp := fun vs H Q _ => ∃ z : Str, vs = [.str z] ∧ Tabs cs H ∧ z.length ≤ 1000000 ∧
  ∀ (r : Addr) (ps : List Addr) (H' : Hp), Ex cs H H' → H r = none → H' r = some (.lst (ps.map V.ref)) → RowsAt ps (rowsT z) H' → Q (.ref r) H'
theorem sc_rowsof : FnScope ["text", "line"] ["text"] (defScope s_rows_of) := ⟨rfl, rfl, rfl, by decide +kernel, rfl, by decide +kernel, by decide +kernel⟩
theorem ok_rowsof {f : Addr} {fd : FuncData} (T : Txt mg) (eT : ∃ t, mg "TAB" = some (.str tabS t)) (eL : ∃ t, mg "LINE_END" = some (.str lineS t)) (F : Fun K "rows_of" "rows_of" s_rows_of f fd) : FnOk P w K mg base CX0 1 f fd ["text"] (spRowsOf cs) := by
  refine F.ok sc_rowsof (fun vs H Q E h => ?_) (fun cdv A outer s H vs Q E hr h => ?_)
  · obtain ⟨z, rfl, _⟩ := h
    rfl
  · obtain ⟨z, rfl, hT, hz2, k⟩ := h
    have nd := sc_rowsof.nd
    have szl : (10000000 : Nat) < sizeLine := by decide
    obtain ⟨tt, eT⟩ := eT
    obtain ⟨tl, eL⟩ := eL
    refine ⟨_, pss_one (ps_ret (pe_lc (own := [("line", 1)]) (g := gName 1) (tt := tYes) rfl nd (pi_list (pe_split (pv 0) (pe_glob (v := .str lineS) rfl eL ⟨_, rfl⟩))) (blkOk_by (own := [("line", 1)]) (N := ["text", "line"]) (sc := defScope s_rows_of) (by decide +kernel))
        (fun _ _ _ _ _ => pg_name (i := 1) nd rfl (Or.inl rfl)) (fun _ _ _ _ _ => pts_nil) (fun s1 H1 C1 cl1 fp1 => pe_callTy (T := "tuple") (r := rTupT K) call_tuple_of (by rfl) T.tuple (by decide +kernel) (pa_cons (pe_split (to := tVar 1) (te := tC (.str tabS)) (pv 1) (pe_glob (v := .str tabS) (by rfl) eT ⟨_, rfl⟩)) pa_nil)))), ?_⟩
    have hlen : (Txt.split z lineS).length ≤ 1000002 := Nat.le_trans (PyProof.Rows.split_le z _) (by omega)
    refine ⟨_, rfl, ⟨_, rfl⟩, _, _, rfl, rfl, by decide +kernel, by omega, fun p np => ?_⟩
    have x1 := Ex.laid (o := .lst ((Txt.split z lineS).map V.str)) hT np
    have hp1 : upd H p (.lst ((Txt.split z lineS).map V.str)) p = some (.lst (sV (Txt.split z lineS))) := upd_same
    generalize upd H p (.lst ((Txt.split z lineS).map V.str)) = H1 at x1 hp1 ⊢
    refine ⟨p, rfl, ⟨_, SqL.of hp1⟩, fun D nD => lc_list (xs := sV (Txt.split z lineS)) (fun i H' => Ex cs H1 H' ∧ ∃ ps : List Addr, H' D = some (.lst (ps.map V.ref)) ∧ ps.length = i ∧ ∀ (j : Nat) (q : Addr) (z' : Str), ps[j]? = some q → (Txt.split z lineS)[j]? = some z' → H' q = some (.tup (sV (Txt.split z' tabS))))
      ⟨Ex.laid x1.tab nD, [], upd_same, rfl, fun j q z h => by cases h⟩ (fun i H' _ x => x.1.sqL (SqL.of hp1)) ?_ ?_⟩
    · rintro i v H4 hv ⟨x4, ps, hD4, hpl, hps⟩
      obtain ⟨y, hy, rfl⟩ := get_map hv
      have hi := (List.getElem?_eq_some_iff.mp hy).1
      have hyl := split_pieceL (by rw [cl_lineS]; decide) kind_line (List.mem_of_getElem? hy)
      refine ⟨rfl, _, rfl, ⟨_, rfl⟩, _, _, rfl, rfl, by decide +kernel, by omega, fun u nu => ⟨u, _, rfl, .inl ⟨SqL.of upd_same, fun t nt => ?_⟩⟩⟩
      have x5 := x4.trans (Ex.laid (o := .lst ((Txt.split y tabS).map V.str)) x4.tab nu)
      have x6 := x5.trans (Ex.laid (o := .tup ((Txt.split y tabS).map V.str)) x5.tab nt)
      have x46 := (Ex.laid (o := .lst ((Txt.split y tabS).map V.str)) x4.tab nu).trans (Ex.laid (o := .tup ((Txt.split y tabS).map V.str)) x5.tab nt)
      have ht : upd (upd H4 u (.lst ((Txt.split y tabS).map V.str))) t (.tup ((Txt.split y tabS).map V.str)) t = some (.tup (sV (Txt.split y tabS))) := upd_same
      have nt4 : H4 t = none := (Ex.laid (o := .lst ((Txt.split y tabS).map V.str)) x4.tab nu).old _ nt
      generalize upd (upd H4 u (.lst ((Txt.split y tabS).map V.str))) t (.tup ((Txt.split y tabS).map V.str)) = H6 at x6 x46 ht ⊢
      have hD6 := x46.lst hD4
      have nDt : D ≠ t := fun e => by rw [e, nt4] at hD4; cases hD4
      refine ⟨_, hD6, by rw [List.length_map]; omega, ex_new x1.tab x6 nD, ps ++ [t], ?_, by rw [List.length_append, hpl]; rfl, fun j q z2 h1 h2 => ?_⟩
      · rw [upd_same, List.map_append]; rfl
      · by_cases hj : j < ps.length
        · rw [List.getElem?_append_left hj] at h1
          have h0 := x46.tup (hps j q z2 h1 h2)
          rw [upd_ne (fun e => by rw [e, hD6] at h0; cases h0)]
          exact h0
        · have hl2 := (List.getElem?_eq_some_iff.mp h1).1
          rw [List.length_append, List.length_singleton] at hl2
          have ej : j = i := by omega
          subst ej
          rw [List.getElem?_append_right (by omega), hpl, Nat.sub_self] at h1
          cases h1
          rw [hy] at h2
          cases h2
          rw [upd_ne nDt.symm]
          exact ht
    · rintro H4 ⟨x4, ps, hD4, hpl, hps⟩
      rw [List.length_map] at hpl
      refine k D ps H4 (x1.trans x4) (x1.old _ nD) hD4 ⟨by unfold rowsT; rw [List.length_map]; exact hpl, fun i q z2 h1 h2 => ?_⟩
      unfold rowsT at h2
      obtain ⟨l, hl, rfl⟩ := get_map h2
      exact hps i q l h1 hl
/-! ### written -/
def spWrit (K : PySem.W.Frag) (cs : List (Addr × Addr)) : Sp := fun vs H Q _ => ∃ (a : Addr) (as : List Addr) (rows : List (List Str)), vs = [.ref a] ∧ Tabs cs H ∧ PageAt K H a as rows ∧ PgOk rows ∧ ∀ H', Ex cs H H' → Q (.str (pageT rows)) H'
theorem sumLeT (m : Nat) : ∀ (ys : List Str), (∀ y ∈ ys, y.length ≤ m) → (ys.map (·.length)).sum ≤ ys.length * m
  | [], _ => Nat.zero_le _
  | y :: ys, h => by
    have h1 := h y (by simp)
    have h2 := sumLeT m ys fun x hx => h x (by simp [hx])
    rw [List.map_cons, List.sum_cons, List.length_cons, Nat.add_mul]
    omega
theorem sc_writ : FnScope ["page", "row"] ["page"] (defScope s_written) := ⟨rfl, rfl, rfl, by decide +kernel, rfl, by decide +kernel, by decide +kernel⟩
theorem ok_writ {f g1 : Addr} {fd fd1 : FuncData} (eT : ∃ t, mg "TAB" = some (.str tabS t)) (eL : ∃ t, mg "LINE_END" = some (.str lineS t)) (F : Fun K "written" "written" s_written f fd)
    (G1 : FnOk P w K mg base CX0 11 g1 fd1 ["page"] (spCheck K cs)) (k1 : PySem.W.keepIn K (.ref g1) = true) (b1 : Binds K fd1 ["page"] []) (m1 : mg "check_page" = some (.ref g1)) : FnOk P w K mg base CX0 12 f fd ["page"] (spWrit K cs) := by
  refine F.ok sc_writ (fun vs H Q E h => ?_) (fun cdv A outer s H vs Q E hr h => ?_)
  · obtain ⟨a, as, rows, rfl, _⟩ := h
    rfl
  · obtain ⟨a, as, rows, rfl, hT, hP, hO, k⟩ := h
    have nd := sc_writ.nd
    obtain ⟨tt, eT⟩ := eT
    obtain ⟨tl, eL⟩ := eL
    have szl : (1000 : Nat) < sizeLine := by decide
    refine ⟨_, pss_cons (ps_expr (pe_call G1 hr (by rfl) m1 k1 b1 .nil pass0 (pa_cons (pv 0) pa_nil))) (pss_one (ps_ret (pe_join (pe_glob (v := .str lineS) rfl eL ⟨_, rfl⟩)
      (pe_lc (own := [("row", 1)]) (g := gName 1) (tt := tYes) rfl nd (pi_list (pv 0)) (blkOk_by (own := [("row", 1)]) (N := ["page", "row"]) (sc := defScope s_written) (by decide +kernel)) (fun _ _ _ _ _ => pg_name (i := 1) nd rfl (Or.inl rfl)) (fun _ _ _ _ _ => pts_nil)
        (fun s1 H1 C1 cl1 fp1 => show PE _ _ (tM1 (rJoin K) (tC (.str tabS)) (tVar 1)) from pe_join (pe_glob (v := .str tabS) (by rfl) eT ⟨_, rfl⟩) (pv 1)))))), ?_⟩
    have hrl : ∀ r ∈ rows, r.length ≤ 6 ∧ ∀ z ∈ r, z.length ≤ 10 := fun r hr => ⟨(hO.rows r hr).2, fun z hz => ((hO.rows r hr).3 z hz).1⟩
    have hl := hO.len
    refine ⟨_, rfl, a, as, rows, rfl, hT, hP, hO, fun H1 x1 => ⟨⟨_, rfl⟩, _, rfl, a, rfl, ⟨_, x1.sqL hP.lst⟩, fun D nD => lc_list (xs := as.map V.ref) (fun i H' => Ex cs H1 H' ∧ H' D = some (.lst (sV ((rows.map rowT).take i))))
      ⟨Ex.laid x1.tab nD, upd_same⟩ (fun i H' _ x => x.1.sqL (x1.sqL hP.lst)) ?_ ?_⟩⟩
    · rintro i v H4 hv ⟨x4, hD4⟩
      obtain ⟨q, hq, rfl⟩ := get_map hv
      have hi := (List.getElem?_eq_some_iff.mp hq).1
      obtain ⟨r, hr2⟩ := getP (xs := rows) (i := i) (by rw [← hP.len]; exact hi)
      obtain ⟨l6, l10⟩ := hrl r (List.mem_of_getElem? hr2)
      have hs := sumLeT 10 r l10
      have e1 : tabS.length = 1 := by decide +kernel
      refine ⟨rfl, ⟨_, rfl⟩, _, rfl, _, q, r, rfl, rfl, .inr ((x1.trans x4).sqT (hP.row i q r hq hr2)), by rw [e1]; omega, _, hD4, ?_, ex_new x1.tab x4 nD, ?_⟩
      · rw [List.length_map, List.length_take]; rw [List.length_map]; have := hP.len; omega
      · have e : (rows.map rowT)[i]? = some (rowT r) := by
          rw [List.getElem?_map, hr2]
          rfl
        rw [upd_same, List.take_add_one, e]
        simp [sV]
        rfl
    · rintro H4 ⟨x4, hD4⟩
      have e2 : (rows.map rowT).take (as.map V.ref).length = rows.map rowT := List.take_of_length_le (by rw [List.length_map, List.length_map, hP.len]; exact Nat.le_refl _)
      rw [e2] at hD4
      have hs := sumLeT 66 (rows.map rowT) fun y hy => by
        obtain ⟨r, hr, rfl⟩ := List.mem_map.mp hy
        exact rowT_len (hO.rows r hr)
      rw [List.length_map] at hs
      have e1 : lineS.length = 1 := by decide +kernel
      exact ⟨_, D, rows.map rowT, rfl, rfl, .inl (SqL.of hD4), by rw [e1, List.length_map]; omega, k H4 (x1.trans x4)⟩
end
end TG
namespace TG
open PySem PySem.Spec PyProof.Rows L2 Gx
/-! ### places of this text -/
abbrev nTable : Nat := 44
/-! ### all but some stays -/
def Mob (H : Hp) (A : Addr → Prop) : Prop := ∀ c, A c → (∃ us, H c = some (.lst us)) ∨ (∃ C dx fs, H c = some (.ins C dx fs))
section
variable {K : PySem.W.Frag} {A B : Addr → Prop} {H H1 H' : Hp}
theorem KM.tr (x : KM A H H1) (y : KM A H1 H') : KM A H H' := fun c o h n m => y c o (x c o h n m) n m
theorem KM.mono (x : KM A H H') (h : ∀ c, A c → B c) : KM B H H' := fun c o e n m => x c o e n fun z => m (h c z)
theorem sqT_km {t : Addr} {xs : List V} (x : KM A H H') (m : Mob H A) (h : SqT K H t xs) : SqT K H' t xs := by
  rcases h with (h | ⟨u, h⟩) | h
  · refine .inl (.inl (x _ _ h (fun ps z => by cases z) fun z => ?_))
    rcases m _ z with ⟨us, e⟩ | ⟨C, dx, fs, e⟩ <;> rw [e] at h <;> cases h
  · refine .inl (.inr ⟨u, x _ _ h (fun ps z => by cases z) fun z => ?_⟩)
    rcases m _ z with ⟨us, e⟩ | ⟨C, dx, fs, e⟩ <;> rw [e] at h <;> cases h
  · exact .inr h
theorem tup_km {t : Addr} {xs : List V} (x : KM A H H') (m : Mob H A) (h : H t = some (.tup xs)) : H' t = some (.tup xs) :=
  x _ _ h (fun ps z => by cases z) fun z => by
    rcases m _ z with ⟨us, e⟩ | ⟨C, dx, fs, e⟩ <;> rw [e] at h <;> cases h
theorem upd_km {a : Addr} {o : HO} : KM (fun c => c = a) H (upd H a o) := fun c u h _ n => by rw [upd_ne n]; exact h
theorem same_ex {cs : List (Addr × Addr)} (x : Same H H') (t : Tabs cs H) : Ex cs H H' :=
  ⟨fun b o h _ => x b o h, fun p hp => by
    obtain ⟨ps, h1, h2⟩ := t p hp
    exact ⟨ps, x _ _ h1, h2⟩, fun b h => same_old x h, fun b o h _ => x b o h⟩
theorem _root_.Gx.Ex.any {cs : List (Addr × Addr)} (x : Ex cs H H') {c : Addr} {o : HO} (h : H c = some o) (n : NT cs c o) : H' c = some o := by
  rcases n with n | n
  · exact x.ext _ _ h n
  · exact x.oth _ _ h n
theorem KN.same {cs : List (Addr × Addr)} (x : Same H H') : KN cs A H H' := fun c o h _ _ => x c o h
theorem KN.tr {cs : List (Addr × Addr)} (x : KN cs A H H1) (y : KN cs A H1 H') : KN cs A H H' := fun c o h n m => y c o (x c o h n m) n m
end
/-! ### marks and deeds -/
abbrev Deed := Nat × Str × Nat × Bool
def dV (d : Deed) : List V := [.int (d.1 : Nat), .str d.2.1, .int (d.2.2.1 : Nat), .bl d.2.2.2]
def nV (l : List Nat) : List V := l.map fun n => V.int (n : Nat)
def bV (l : List Bool) : List V := l.map V.bl
structure DeedsAt (H : Hp) (dl : Addr) (da : List Addr) (ds : List Deed) : Prop where
  lst : H dl = some (.lst (da.map V.ref))
  len : da.length = ds.length
  at_ : ∀ (i : Nat) (t : Addr) (d : Deed), da[i]? = some t → ds[i]? = some d → H t = some (.tup (dV d))
theorem DeedsAt.same {H H' : Hp} {dl : Addr} {da : List Addr} {ds : List Deed} (o : DeedsAt H dl da ds) (x : Same H H') : DeedsAt H' dl da ds :=
  ⟨x _ _ o.lst, o.len, fun i t d h1 h2 => x _ _ (o.at_ i t d h1 h2)⟩
/-- what a deed makes of what is there -/
def markR (th : List Bool) (d : Deed) : List Bool := if d.2.2.2 = decide (d.2.1 = "") then th.set d.2.2.1 false else th
def thereR (many : Nat) (ds : List Deed) : List Bool := ds.foldl markR (List.replicate many true)
theorem markR_len (th : List Bool) (d : Deed) : (markR th d).length = th.length := by
  unfold markR
  split
  · rw [List.length_set]
  · rfl
theorem thereR_len (many : Nat) (ds : List Deed) : (thereR many ds).length = many := by
  have : ∀ (ds : List Deed) (th : List Bool), (ds.foldl markR th).length = th.length := by
    intro ds
    induction ds with
    | nil => intro th; rfl
    | cons d ds ih => intro th; rw [List.foldl_cons, ih, markR_len]
  unfold thereR
  rw [this, List.length_replicate]
def thoseR (order : List Nat) (there : List Bool) : List Nat := order.filter fun m => there.getD m false
def textR (signs : List Str) (marks : List Nat) : Str := Txt.join "" (marks.map fun m => signs.getD m "")
def firstR (order : List Nat) (there : List Bool) (spot : Nat) : Nat := ((order.drop (order.idxOf spot)).find? fun m => there.getD m false).getD 0
theorem nV_get {l : List Nat} {i m : Nat} (h : l[i]? = some m) : (nV l)[i]? = some (.int (m : Nat)) := by unfold nV; rw [List.getElem?_map, h]; rfl
theorem bV_get {l : List Bool} {i : Nat} (h : i < l.length) : (bV l)[i]? = some (.bl (l.getD i false)) := by
  unfold bV
  rw [List.getElem?_map, List.getElem?_eq_getElem h, List.getD_eq_getElem?_getD, List.getElem?_eq_getElem h]
  rfl
theorem ixN_nat {n j : Nat} (h : j < n) : ixN n ((j : Nat) : Int) = some j := by
  unfold ixN
  have e : ¬ ((j : Int) < 0) := by omega
  simp [e, h]
end TG
namespace TG
open PySem PySem.Spec PyProof.Rows L2 NdefX GenW Gx Lv
/-! ### a text's rows, sign by sign -/
def spl1 (s : Nat) : List Nat → List Nat → List (List Nat)
  | acc, [] => [acc]
  | acc, c :: l => if c = s then acc :: spl1 s [] l else spl1 s (acc ++ [c]) l
theorem spl_one (s : Nat) : ∀ (l acc : List Nat), TL.spl [s] 0 acc l = spl1 s acc l
  | [], acc => rfl
  | c :: r, acc => by
    have hp : TL.pre [s] (c :: r) = decide (c = s) := by
      show (List.take 1 (c :: r) == [s]) = _
      by_cases h : c = s
      · subst h; simp
      · simp [h]
    unfold TL.spl spl1
    rw [hp]
    by_cases h : c = s
    · rw [if_pos (decide_eq_true h), if_pos h]
      rw [← spl_one s r []]
      rfl
    · rw [if_neg (by rw [decide_eq_false h]; exact Bool.false_ne_true), if_neg h]
      exact spl_one s r _
theorem spl1_ne (s : Nat) : ∀ (l acc : List Nat), spl1 s acc l ≠ []
  | [], acc => by simp [spl1]
  | c :: r, acc => by
    unfold spl1
    split
    · simp
    · exact spl1_ne s r _
theorem spl1_mem (s : Nat) : ∀ (l acc : List Nat) (p : List Nat), p ∈ spl1 s acc l → s ∉ acc → s ∉ p ∧ ∀ c ∈ p, c ∈ acc ∨ c ∈ l
  | [], acc, p, h, ha => by
    unfold spl1 at h
    rw [List.mem_singleton] at h
    subst h
    exact ⟨ha, fun c hc => .inl hc⟩
  | c :: r, acc, p, h, ha => by
    unfold spl1 at h
    split at h
    · rename_i hcs
      rcases List.mem_cons.mp h with rfl | h
      · exact ⟨ha, fun d hd => .inl hd⟩
      · obtain ⟨h1, h2⟩ := spl1_mem s r [] p h (by simp)
        exact ⟨h1, fun d hd => by
          rcases h2 d hd with z | z
          · cases z
          · exact .inr (List.mem_cons_of_mem _ z)⟩
    · rename_i hcs
      obtain ⟨h1, h2⟩ := spl1_mem s r (acc ++ [c]) p h (fun z => by
        rcases List.mem_append.mp z with z | z
        · exact ha z
        · exact hcs (List.mem_singleton.mp z).symm)
      exact ⟨h1, fun d hd => by
        rcases h2 d hd with z | z
        · rcases List.mem_append.mp z with z | z
          · exact .inl z
          · rw [List.mem_singleton.mp z]; exact .inr List.mem_cons_self
        · exact .inr (List.mem_cons_of_mem _ z)⟩
theorem spl1_end (s : Nat) : ∀ (l acc : List Nat), spl1 s acc (l ++ [s]) = spl1 s acc l ++ [[]]
  | [], acc => by simp [spl1]
  | c :: r, acc => by
    show spl1 s acc (c :: (r ++ [s])) = _
    unfold spl1
    split
    · rw [spl1_end s r []]; rfl
    · exact spl1_end s r _
theorem spl1_more (s c : Nat) (hc : c ≠ s) : ∀ (l acc : List Nat) (R : List (List Nat)) (C : List Nat), spl1 s acc l = R ++ [C] → spl1 s acc (l ++ [c]) = R ++ [C ++ [c]]
  | [], acc, R, C, h => by
    unfold spl1 at h
    have e : R = [] ∧ C = acc := by
      cases R with
      | nil => injection h with h _; exact ⟨rfl, h.symm⟩
      | cons x R => injection h with _ h; cases R <;> cases h
    obtain ⟨rfl, rfl⟩ := e
    simp [spl1, hc]
  | d :: r, acc, R, C, h => by
    show spl1 s acc (d :: (r ++ [c])) = _
    unfold spl1 at h ⊢
    split
    · rename_i hd
      rw [if_pos hd] at h
      cases R with
      | nil =>
        injection h with _ h
        exact absurd h (spl1_ne s r [])
      | cons x R =>
        injection h with h1 h2
        rw [spl1_more s c hc r [] R C h2, h1]
        rfl
    · rename_i hd
      rw [if_neg hd] at h
      exact spl1_more s c hc r _ R C h
/-- what is gone on with: cells, a cell, and the signs to come, the last of which is a line's end -/
def goR : List (List Nat) → List Nat → List Nat → List (List (List Nat))
  | _, _, [] => []
  | R, C, c :: l => if c = 9 then goR (R ++ [C]) [] l else if c = 10 then (R ++ [C]) :: goR [] [] l else goR R (C ++ [c]) l
theorem go_split : ∀ (l acc : List Nat) (R : List (List Nat)) (C : List Nat), spl1 9 [] acc = R ++ [C] → (spl1 10 acc l).map (spl1 9 []) = goR R C (l ++ [10])
  | [], acc, R, C, h => by
    show [spl1 9 [] acc] = goR R C [10]
    rw [h]
    rfl
  | c :: l, acc, R, C, h => by
    show (spl1 10 acc (c :: l)).map (spl1 9 []) = goR R C (c :: (l ++ [10]))
    unfold spl1 goR
    by_cases h9 : c = 9
    · subst h9
      rw [if_neg (by decide), if_pos rfl]
      exact go_split l _ _ _ (by rw [spl1_end, h])
    · rw [if_neg h9]
      by_cases h10 : c = 10
      · rw [if_pos h10, if_pos h10, List.map_cons, h, go_split l [] [] [] rfl]
      · rw [if_neg h10, if_neg h10]
        exact go_split l _ _ _ (spl1_more 9 c h9 acc [] R C h)
theorem rowsT_cl (z : Str) : (rowsT z).map (List.map cl) = goR [] [] (cl z ++ [10]) := by
  have e1 := split_clL z lineS (by rw [cl_lineS]; decide) kind_line
  rw [cl_lineS, spl_one] at e1
  rw [← go_split (cl z) [] [] [] rfl, ← e1, List.map_map]
  unfold rowsT
  rw [List.map_map]
  apply List.map_congr_left
  intro p _
  have e2 := split_clL p tabS (by rw [cl_tabS]; decide) kind_tab
  rw [cl_tabS, spl_one] at e2
  exact e2
/-- signs, tabs and line ends -/
def TxtSg (z : Str) : Prop := ∀ c ∈ cl z, SgOk c ∨ c = 9 ∨ c = 10
theorem rowsT_sg {z : Str} (h : TxtSg z) : ∀ r ∈ rowsT z, ∀ x ∈ r, (∀ c ∈ cl x, SgOk c) ∧ x.length ≤ z.length := by
  intro r hr x hx
  unfold rowsT at hr
  obtain ⟨p, hp, rfl⟩ := List.mem_map.mp hr
  have l1 := split_pieceL (by rw [cl_lineS]; decide) kind_line hp
  have l2 := split_pieceL (by rw [cl_tabS]; decide) kind_tab hx
  have e1 := split_clL z lineS (by rw [cl_lineS]; decide) kind_line
  rw [cl_lineS, spl_one] at e1
  have e2 := split_clL p tabS (by rw [cl_tabS]; decide) kind_tab
  rw [cl_tabS, spl_one] at e2
  have m1 : cl p ∈ spl1 10 [] (cl z) := by rw [← e1]; exact List.mem_map_of_mem hp
  have m2 : cl x ∈ spl1 9 [] (cl p) := by rw [← e2]; exact List.mem_map_of_mem hx
  obtain ⟨a1, a2⟩ := spl1_mem 10 _ _ _ m1 (by simp)
  obtain ⟨b1, b2⟩ := spl1_mem 9 _ _ _ m2 (by simp)
  refine ⟨fun c hc => ?_, by omega⟩
  rcases b2 c hc with q | q
  · cases q
  rcases a2 c q with q2 | q2
  · cases q2
  rcases h c q2 with q3 | q3 | q3
  · exact q3
  · rw [q3] at hc; exact absurd hc b1
  · rw [q3] at q; exact absurd q a1
theorem rowsT_pos (z : Str) : 1 ≤ (rowsT z).length ∧ ∀ r ∈ rowsT z, 1 ≤ r.length := by
  have ne : ∀ (x y : Str), cl y ≠ [] → Builtin.Str.strKind y = 1 → (∃ s, cl y = [s]) → 1 ≤ (Txt.split x y).length := fun x y h0 hk ⟨s, hs⟩ => by
    have e := split_clL x y h0 hk
    rw [hs, spl_one] at e
    have h := spl1_ne s (cl x) []
    rw [← e] at h
    cases q : Txt.split x y with
    | nil => rw [q] at h; exact absurd rfl h
    | cons a b => simp
  refine ⟨?_, fun r hr => ?_⟩
  · unfold rowsT
    rw [List.length_map]
    exact ne z lineS (by rw [cl_lineS]; decide) kind_line ⟨10, cl_lineS⟩
  · unfold rowsT at hr
    obtain ⟨p, _, rfl⟩ := List.mem_map.mp hr
    exact ne p tabS (by rw [cl_tabS]; decide) kind_tab ⟨9, cl_tabS⟩
theorem rowsT_len {z : Str} (h : z.length ≤ 1000000) : (rowsT z).length ≤ 1000002 ∧ ∀ r ∈ rowsT z, r.length ≤ 1000002 := by
  refine ⟨?_, fun r hr => ?_⟩
  · unfold rowsT
    rw [List.length_map]
    exact Nat.le_trans (PyProof.Rows.split_le z _) (by omega)
  · unfold rowsT at hr
    obtain ⟨p, hp, rfl⟩ := List.mem_map.mp hr
    have l1 := split_pieceL (by rw [cl_lineS]; decide) kind_line hp
    exact Nat.le_trans (PyProof.Rows.split_le p _) (by omega)
/-! ### which row can't be -/
def fitR (r : List Str) : Bool := decide (r.length ≤ 6) && r.all fun z => decide (z.length ≤ 10)
structure BadAt (rows : List (List Str)) (n : Nat) : Prop where
  lt : n < rows.length
  n30 : n ≤ 30
  bad : n = 30 ∨ ∃ r, rows[n]? = some r ∧ fitR r = false
  ok : ∀ i r, i < n → rows[i]? = some r → fitR r = true
def GoodR (rows : List (List Str)) : Prop := rows.length ≤ 30 ∧ ∀ r ∈ rows, fitR r = true
theorem good_or (rows : List (List Str)) : GoodR rows ∨ ∃ n, BadAt rows n := by
  have key : ∀ n, n ≤ rows.length → n ≤ 30 → (∃ m, BadAt rows m) ∨ ∀ i r, i < n → rows[i]? = some r → fitR r = true := by
    intro n
    induction n with
    | zero => exact fun _ _ => .inr fun i r h => absurd h (Nat.not_lt_zero _)
    | succ n ih =>
      intro h1 h2
      rcases ih (by omega) (by omega) with h | h
      · exact .inl h
      · obtain ⟨r, hr⟩ := getP (xs := rows) (i := n) (by omega)
        cases hf : fitR r with
        | false => exact .inl ⟨n, by omega, by omega, .inr ⟨r, hr, hf⟩, h⟩
        | true =>
          refine .inr fun i q hi hq => ?_
          by_cases e : i = n
          · subst e; rw [hr] at hq; cases hq; exact hf
          · exact h i q (by omega) hq
  by_cases hl : rows.length ≤ 30
  · rcases key rows.length (Nat.le_refl _) hl with h | h
    · exact .inr h
    · refine .inl ⟨hl, fun r hr => ?_⟩
      obtain ⟨i, hi, e⟩ := List.getElem_of_mem hr
      exact h i r hi (by rw [List.getElem?_eq_getElem hi, e])
  · rcases key 30 (by omega) (Nat.le_refl _) with h | h
    · exact .inr h
    · exact .inr ⟨30, by omega, Nat.le_refl _, .inl rfl, h⟩
theorem good_pg {z : Str} (h : TxtSg z) (g : GoodR (rowsT z)) : PgOk (rowsT z) := by
  refine ⟨(rowsT_pos z).1, g.1, fun r hr => ?_⟩
  have f := g.2 r hr
  unfold fitR at f
  rw [Bool.and_eq_true, List.all_eq_true] at f
  exact ⟨(rowsT_pos z).2 r hr, of_decide_eq_true f.1, fun x hx => ⟨of_decide_eq_true (f.2 x hx), (rowsT_sg h r hr x hx).1⟩⟩
end TG


namespace TG
open PySem PySem.Spec PyProof.Rows L2 NdefX GenW Gx Lv
/-! ### what is refused of a text -/
section
variable {P : Program} {w : World} {K : PySem.W.Frag} {mg : Str → Option Value} {base : Heap} {cs : List (Addr × Addr)}
def spText3 (cs : List (Addr × Addr)) : Sp := fun vs H Q _ => ∃ (z : Str) (m : Int), vs = [.str z, .int m] ∧ Tabs cs H ∧ z.length ≤ 1000000 ∧ (∀ c ∈ z.cps.toList, SgOk c) ∧ ∀ H', Ex cs H H' → Q (.bl (decide ((z.length : Int) ≤ m))) H'
theorem ok_text3 {f c Pt g : Addr} {fd fdg : FuncData} (T : Txt mg) (F : Fun K "is_text_of_signs" "is_text_of_signs" s_is_text f fd) (hc : fd.code = .ref c) (TB : GxR.TabB base mg c Pt) (hm : (c, Pt) ∈ cs)
    (G : FnOk P w K mg base CX0 1 g fdg ["sign"] spSg) (kp : PySem.W.keepIn K (.ref g) = true) (bd : Binds K fdg ["sign"] []) (mgg : mg "is_sign" = some (.ref g)) : FnOk P w K mg base CX0 5 f fd ["value", "most"] (spText3 cs) := by
  refine fun_okT F hc sc_text (fun vs H Q E h => ?_) (fun A outer s H vs Q E hr h => ?_)
  · obtain ⟨z, m, rfl, _⟩ := h
    rfl
  · obtain ⟨z, m, rfl, hT, h2, h3, k⟩ := h
    have szl : (10000000 : Nat) < sizeLine := by decide
    refine ⟨_, pss_one (ps_ret (pe_and (pe_callB call_isi (by rfl) T.isin (by decide +kernel) (pa_cons (pv 0) (pa_cons (pe_bltn (v := .ty "str") (by rfl) T.str (by decide +kernel) rfl) pa_nil)))
      (pe_and (pe_cmpR op_le (pe_callB call_len_str (by rfl) T.len PySem.boot_len (pa_cons (pv 0) pa_nil)) (pv 1) (nomark _))
        (pe_one (pe_allG (k := 1) (P := Pt) hr (by rfl) T.all TB rfl ⟨rfl, rfl, by decide +kernel, by decide +kernel, rfl, rfl⟩ (pi_str (pv 0)) (fun A' code s4 H4 fp hr' => pe_call G hr' (by rfl) mgg kp bd .nil pass0 (pa_cons (pv 0) pa_nil)) (fun _ => rfl)))))), ?_⟩
    by_cases h1 : (z.length : Int) ≤ m
    · rw [decide_eq_true h1] at k
      refine ⟨_, rfl, _, _, _, _, true, rfl, .ty _, .base (.str z), kit_ty (by decide +kernel), true, rfl, iteT ⟨_, rfl, z, rfl, by omega, _, rfl, _, _, rfl, rfl, true, dT h1, iteT ⟨_, rfl, z, rfl, hT _ hm, fun H2 hH2 => ?_⟩⟩⟩
      refine all_by (w := walk_str (z := z)) (fun _ => true) (fun _ H' => H' = H2) rfl (fun _ _ _ _ => trivial) (fun i v H3 H4 hi e y Z hZ => ?_) (fun H3 e _ => ?_) (fun i H3 _ e _ => by cases e)
      · obtain ⟨rfl, c, hc, rfl⟩ := y
        subst e
        refine ⟨_, rfl, c, rfl, h3 c ?_, hZ _ rfl⟩
        exact List.mem_of_getElem? (by rw [Array.getElem?_toList]; exact hc)
      · subst e
        exact k _ (Ex.tabbed hT hm hH2)
    · rw [decide_eq_false h1] at k
      exact ⟨_, rfl, _, _, _, _, true, rfl, .ty _, .base (.str z), kit_ty (by decide +kernel), true, rfl, iteT ⟨_, rfl, z, rfl, by omega, _, rfl, _, _, rfl, rfl, false, dF h1, iteF (k H (Ex.refl hT))⟩⟩
structure RowT (r : List Str) : Prop where
  pos : 1 ≤ r.length
  sg : ∀ z ∈ r, ∀ c ∈ cl z, SgOk c
  len : ∀ z ∈ r, z.length ≤ 1000000
def spRow3 (K : PySem.W.Frag) (cs : List (Addr × Addr)) : Sp := fun vs H Q _ => ∃ (a : Addr) (r : List Str), vs = [.ref a] ∧ Tabs cs H ∧ SqT K H a (sV r) ∧ RowT r ∧ ∀ H', Ex cs H H' → Q (.bl (fitR r)) H'
theorem ok_row3 {f c Pt g : Addr} {fd fdg : FuncData} (T : Txt mg) (N : Consts mg) (F : Fun K "is_row" "is_row" s_is_row f fd) (hc : fd.code = .ref c) (TB : GxR.TabB base mg c Pt) (hm : (c, Pt) ∈ cs)
    (W : FnOk P w K mg base CX0 5 g fdg ["value", "most"] (spText3 cs)) (kp : PySem.W.keepIn K (.ref g) = true) (bd : Binds K fdg ["value", "most"] []) (mgg : mg "is_text_of_signs" = some (.ref g)) : FnOk P w K mg base CX0 9 f fd ["value"] (spRow3 K cs) := by
  refine fun_okT F hc sc_row (fun vs H Q E h => ?_) (fun A outer s H vs Q E hr h => ?_)
  · obtain ⟨a, r, rfl, _⟩ := h
    rfl
  · obtain ⟨a, r, rfl, hT, hS, hL, k⟩ := h
    obtain ⟨t1, e1⟩ := N.cells
    obtain ⟨t2, e2⟩ := N.signs
    refine ⟨_, pss_cons (ps_if (PW.pt (pw_or (pt_not (pt_val (pe_callB call_isi (by rfl) T.isin (by decide +kernel) (pa_cons (pv 0) (pa_cons (pe_bltn (v := .ty "tuple") (by rfl) T.tuple (by decide +kernel) rfl) pa_nil)))))
        (pw_or1 (pt_not (pt_chain op_le op_le pe_int (pe_callB call_len_seq (by rfl) T.len PySem.boot_len (pa_cons (pv 0) pa_nil)) (pe_glob (v := .int 6) rfl e1 ⟨_, rfl⟩)))))) (pss_one (ps_ret pe_bl)) pss_nil)
      (pss_one (ps_ret (pe_allG (k := 5) (P := Pt) hr (by rfl) T.all TB rfl ⟨rfl, rfl, by decide +kernel, by decide +kernel, rfl, rfl⟩ (pi_tup (pv 0))
        (fun A' code s4 H4 fp hr' => pe_call W hr' (by rfl) mgg kp bd .nil pass0 (pa_cons (pv 0) (pa_cons (pe_glob (v := .int 10) rfl e2 ⟨_, rfl⟩) pa_nil))) (fun _ => rfl)))), ?_⟩
    have hl : (sV r).length = r.length := List.length_map ..
    have hpos := hL.pos
    refine ⟨_, rfl, _, _, _, _, true, rfl, .ty _, ty_tup hS, kit_ty (by decide +kernel), true, rfl, iteF ⟨_, rfl, a, _, rfl, .inr hS, 1, _, rfl, rfl, true, dT (by omega), iteT ⟨_, 6, rfl, rfl, ?_⟩⟩⟩
    by_cases h6 : r.length ≤ 6
    · refine ⟨true, dT (by omega), iteF ⟨_, rfl, a, rfl, ⟨_, hS⟩, hT _ hm, fun H2 hH2 => ?_⟩⟩
      have x2 := Ex.tabbed hT hm hH2
      have ef : fitR r = r.all fun z => decide (z.length ≤ 10) := by unfold fitR; rw [decide_eq_true h6, Bool.true_and]
      refine all_by (w := walk_tup (a := a) (xs := sV r)) (fun i => match r[i]? with | some z => decide (z.length ≤ 10) | none => true) (fun _ H' => Ex cs H H') x2 (fun i H' _ x => x.sqT hS) (fun i v H3 H4 hi x y Z hZ => ?_) (fun H3 x hall => ?_) (fun i H3 hi hff x => ?_)
      · obtain ⟨rfl, hv⟩ := y
        obtain ⟨z, hz, rfl⟩ := get_map hv
        have zm := List.mem_of_getElem? hz
        refine ⟨_, rfl, z, 10, rfl, x.tab, hL.len z zm, hL.sg z zm, fun H5 x5 => ?_⟩
        have := hZ _ (x.trans x5)
        rw [hz] at this
        have e : decide ((z.length : Int) ≤ 10) = decide (z.length ≤ 10) := by
          by_cases q : z.length ≤ 10
          · rw [decide_eq_true q, decide_eq_true (by omega)]
          · rw [decide_eq_false q, decide_eq_false (by omega)]
        rw [e]
        exact this
      · have e : fitR r = true := by
          rw [ef, List.all_eq_true]
          intro z hz
          obtain ⟨i, hi, e⟩ := List.getElem_of_mem hz
          have q := hall i (by omega)
          rw [List.getElem?_eq_getElem hi, e] at q
          exact q
        rw [← e]
        exact k _ x
      · have e : fitR r = false := by
          rw [ef, Bool.eq_false_iff]
          intro q
          rw [List.all_eq_true] at q
          have hi2 : i < r.length := by omega
          rw [List.getElem?_eq_getElem hi2] at hff
          have := q _ (List.getElem_mem hi2)
          rw [show decide (r[i].length ≤ 10) = false from hff] at this
          cases this
        rw [← e]
        exact k _ x
    · refine ⟨false, dF (by omega), iteT ?_⟩
      have e : fitR r = false := by unfold fitR; rw [decide_eq_false h6, Bool.false_and]
      rw [← e]
      exact k _ (Ex.refl hT)
def spMisB (K : PySem.W.Frag) (cs : List (Addr × Addr)) : Sp := fun vs H Q _ => ∃ (a : Addr) (as : List Addr) (rows : List (List Str)) (n : Nat), vs = [.ref a] ∧ Tabs cs H ∧ PageAt K H a as rows ∧ (∀ r ∈ rows, RowT r) ∧ BadAt rows n ∧ ∀ H', Ex cs H H' → Q (.int (n : Nat)) H'
theorem ok_misB {f g : Addr} {fd fdg : FuncData} (T : Txt mg) (N : Consts mg) (F : Fun K "first_misfit" "first_misfit" s_misfit f fd)
    (G : FnOk P w K mg base CX0 9 g fdg ["value"] (spRow3 K cs)) (kp : PySem.W.keepIn K (.ref g) = true) (bd : Binds K fdg ["value"] []) (mgg : mg "is_row" = some (.ref g)) : FnOk P w K mg base CX0 10 f fd ["rows"] (spMisB K cs) := by
  refine F.ok sc_misfit (fun vs H Q E h => ?_) (fun cdv A outer s H vs Q E hr h => ?_)
  · obtain ⟨a, as, rows, n, rfl, _⟩ := h
    rfl
  · obtain ⟨a, as, rows, n, rfl, hT, hP, hO, hB, k⟩ := h
    have nd := sc_misfit.nd
    obtain ⟨t1, e1⟩ := N.rows
    refine ⟨_, pss_cons (ps_for PassesOwn.never rfl (pi_enum (by rfl) T.enum (pa_cons (pv 0) pa_nil)) (pg_tup rfl (pgs_cons (pg_name (i := 1) nd rfl (.inl rfl)) (pgs_cons (pg_name (i := 2) nd rfl (.inl rfl)) pgs_nil)))
        (pss_one (ps_if (PW.pt (pw_or (pt_cmpR op_eq (pv 1) (pe_glob (v := .int 30) rfl e1 ⟨_, rfl⟩) (nomark _)) (pw_or1 (pt_not (pt_val (pe_call G hr (by rfl) mgg kp bd .nil pass0 (pa_cons (pv 2) pa_nil))))))) (pss_one (ps_ret (pv 1))) pss_nil)))
      (pss_one ps_never), ?_⟩
    have hl : (as.map V.ref).length = rows.length := by rw [List.length_map]; exact hP.len
    have hlt := hB.lt
    refine ⟨_, rfl, a, _, rfl, hP.lst, for_it (walk_enum (xs := as.map V.ref)) (fun i σ H' => i ≤ n ∧ Ex cs H H' ∧ σ[0]? = some (some (.ref a)) ∧ σ.length = 3) ⟨Nat.zero_le _, Ex.refl hT, rfl, rfl⟩ (fun i σ H' _ x => x.2.1.sqL hP.lst) ?_ ?_⟩
    · rintro i x σ H3 H4 hi ⟨hin, x3, s0, sl⟩ ⟨Tp, v, u, rfl, hn, rfl, hv, hu⟩
      cases hv
      obtain ⟨p, hp, rfl⟩ := get_map hu
      have hi2 : i < rows.length := by omega
      obtain ⟨r, hr2⟩ := getP hi2
      have xl := Ex.laid (o := .tup [.int (i : Nat), .ref p]) x3.tab hn
      refine ⟨Tp, _, rfl, .inl (.inl upd_same), rfl, _, _, rfl, _, _, rfl, rfl, ?_⟩
      have g1 : ((σ.set 1 (some (V.int (i : Nat)))).set 2 (some (V.ref p)))[1]? = some (some (V.int (i : Nat))) := by
        rw [List.getElem?_set_ne (by decide)]
        exact List.getElem?_set_self (by omega)
      have g2 : ((σ.set 1 (some (V.int (i : Nat)))).set 2 (some (V.ref p)))[2]? = some (some (V.ref p)) := List.getElem?_set_self (by rw [List.length_set]; omega)
      have n30 := hB.n30
      by_cases h30 : i = 30
      · have ein : i = n := by omega
        subst ein
        exact ⟨_, g1, rfl, true, dT (by rw [h30]; rfl), iteT (iteT ⟨_, g1, k _ (x3.trans xl)⟩)⟩
      · refine ⟨_, g1, rfl, false, dF (fun z => by injection z with z; omega), iteF ⟨_, g2, p, r, rfl, xl.tab, (x3.trans xl).sqT (hP.row i p r hp hr2), hO r (List.mem_of_getElem? hr2), fun H5 x5 => ⟨_, rfl, ?_⟩⟩⟩
        by_cases hlt2 : i < n
        · rw [hB.ok i r hlt2 hr2]
          refine iteF ⟨by omega, (x3.trans xl).trans x5, ?_, ?_⟩
          · rw [List.getElem?_set_ne (by decide), List.getElem?_set_ne (by decide)]; exact s0
          · rw [List.length_set, List.length_set]; exact sl
        · have ein : i = n := by omega
          subst ein
          rcases hB.bad with q | ⟨r2, h1, h2⟩
          · exact absurd q h30
          · rw [hr2] at h1
            cases h1
            rw [h2]
            exact iteT ⟨_, g1, k _ ((x3.trans xl).trans x5)⟩
    · rintro σ H' ⟨hin, _⟩
      omega
end
end TG


namespace TG
open PySem PySem.Spec PyProof.Rows L2 Gx
section
variable {P : Program} {w : World} {K : PySem.W.Frag} {mg : Str → Option Value} {base : Heap} {cs : List (Addr × Addr)}
/-! ### those_there -/
def spThose (K : PySem.W.Frag) : Sp := fun vs H Q _ => ∃ (ol tl : Addr) (order : List Nat) (there : List Bool), vs = [.ref ol, .ref tl] ∧ SqL K H ol (nV order) ∧ SqL K H tl (bV there) ∧ (∀ m ∈ order, m < there.length) ∧ order.length ≤ 10000 ∧
  ∀ (D : Addr), H D = none → Q (.ref D) (upd H D (.lst (nV (thoseR order there))))
theorem sc_those : FnScope ["order", "there", "mark"] ["order", "there"] (defScope s_those_there) := ⟨rfl, rfl, rfl, by decide +kernel, rfl, by decide +kernel, by decide +kernel⟩
theorem thoseR_take {order : List Nat} {there : List Bool} {i m : Nat} (h : order[i]? = some m) : thoseR (order.take (i + 1)) there = thoseR (order.take i) there ++ (if there.getD m false = true then [m] else []) := by
  unfold thoseR
  rw [List.take_add_one, h, List.filter_append]
  congr 1
  rw [Option.toList_some, List.filter_cons, List.filter_nil]
theorem ok_those {f : Addr} {fd : FuncData} (F : Fun K "those_there" "those_there" s_those_there f fd) : FnOk P w K mg base CX0 1 f fd ["order", "there"] (spThose K) := by
  refine F.ok sc_those (fun vs H Q E h => ?_) (fun cdv A outer s H vs Q E hr h => ?_)
  · obtain ⟨ol, tl, order, there, rfl, _⟩ := h
    rfl
  · obtain ⟨ol, tl, order, there, rfl, h1, h2, hm, hl, k⟩ := h
    have nd := sc_those.nd
    have szl : (10000 : Nat) < sizeLine := by decide
    refine ⟨_, pss_one (ps_ret (pe_lc (own := [("mark", 2)]) (g := gName 2) rfl nd (pi_list (pv 0)) (blkOk_by (own := [("mark", 2)]) (N := ["order", "there", "mark"]) (sc := defScope s_those_there) (by decide +kernel))
        (fun _ _ _ _ _ => pg_name (i := 2) nd rfl (Or.inl rfl)) (fun _ _ _ _ _ => pts_one (pt_val (pe_ix (r := rIxL K) ix_list (pv 1) (pv 2) (fun _ _ => rfl)))) (fun _ _ _ _ _ => pv 2))), ?_⟩
    refine ⟨_, rfl, ol, rfl, ⟨_, h1⟩, fun D nD => lc_list (xs := nV order) (fun i H' => H' = upd H D (.lst (nV (thoseR (order.take i) there)))) rfl (fun i H' _ x => by rw [x]; exact same_sqL (same_new nD) h1) ?_ ?_⟩
    · rintro i x H' hx rfl
      obtain ⟨m, hmm, rfl⟩ := get_map hx
      have lt := hm m (List.mem_of_getElem? hmm)
      refine ⟨rfl, _, rfl, _, rfl, tl, _, _, _, rfl, rfl, same_sqL (same_new nD) h2, atI_nat (bV_get lt), there.getD m false, rfl, ?_⟩
      rw [thoseR_take hmm]
      cases e : there.getD m false with
      | true =>
        refine iteT ⟨_, rfl, _, upd_same, ?_, ?_⟩
        · have : (thoseR (order.take i) there).length ≤ (order.take i).length := List.length_filter_le _ _
          rw [List.length_take] at this
          unfold nV
          rw [List.length_map]
          omega
        · rw [upd_upd]
          simp [nV]
      | false =>
        refine iteF ?_
        simp
    · rintro H' rfl
      have e : order.take (nV order).length = order := List.take_of_length_le (by unfold nV; rw [List.length_map]; exact Nat.le_refl _)
      rw [e]
      exact k D nD
/-! ### text_of -/
def spTextOf (K : PySem.W.Frag) : Sp := fun vs H Q _ => ∃ (sl ml : Addr) (signs : List Str) (marks : List Nat), vs = [.ref sl, .ref ml] ∧ SqL K H sl (sV signs) ∧ SqL K H ml (nV marks) ∧ (∀ m ∈ marks, m < signs.length) ∧ marks.length ≤ 10000 ∧ (∀ z ∈ signs, z.length ≤ 1) ∧
  ∀ (H' : Hp), Same H H' → Q (.str (textR signs marks)) H'
theorem sc_textof : FnScope ["signs", "marks", "mark"] ["signs", "marks"] (defScope s_text_of) := ⟨rfl, rfl, rfl, by decide +kernel, rfl, by decide +kernel, by decide +kernel⟩
theorem signs_get {signs : List Str} {m : Nat} (h : m < signs.length) : (sV signs)[m]? = some (.str (signs.getD m "")) := by
  unfold sV
  rw [List.getElem?_map, List.getElem?_eq_getElem h, List.getD_eq_getElem?_getD, List.getElem?_eq_getElem h]
  rfl
theorem sum_ones : ∀ (ys : List Str), (∀ y ∈ ys, y.length ≤ 1) → (ys.map (·.length)).sum ≤ ys.length
  | [], _ => Nat.zero_le _
  | y :: ys, h => by
    have h1 := h y (by simp)
    have h2 := sum_ones ys fun x hx => h x (by simp [hx])
    rw [List.map_cons, List.sum_cons, List.length_cons]
    omega
theorem ok_textof {f : Addr} {fd : FuncData} (F : Fun K "text_of" "text_of" s_text_of f fd) : FnOk P w K mg base CX0 1 f fd ["signs", "marks"] (spTextOf K) := by
  refine F.ok sc_textof (fun vs H Q E h => ?_) (fun cdv A outer s H vs Q E hr h => ?_)
  · obtain ⟨sl, ml, signs, marks, rfl, _⟩ := h
    rfl
  · obtain ⟨sl, ml, signs, marks, rfl, h1, h2, hm, hl, hz, k⟩ := h
    have nd := sc_textof.nd
    have szl : (10000 : Nat) < sizeLine := by decide
    refine ⟨_, pss_one (ps_ret (pe_join pe_str (pe_lc (own := [("mark", 2)]) (g := gName 2) (tt := tYes) rfl nd (pi_list (pv 1)) (blkOk_by (own := [("mark", 2)]) (N := ["signs", "marks", "mark"]) (sc := defScope s_text_of) (by decide +kernel))
        (fun _ _ _ _ _ => pg_name (i := 2) nd rfl (Or.inl rfl)) (fun _ _ _ _ _ => pts_nil) (fun _ _ _ _ _ => pe_ix (r := rIxL K) ix_list (pv 0) (pv 2) (fun _ _ => rfl))))), ?_⟩
    refine ⟨⟨_, rfl⟩, _, rfl, ml, rfl, ⟨_, h2⟩, fun D nD => lc_list (xs := nV marks) (fun i H' => H' = upd H D (.lst (sV ((marks.take i).map fun m => signs.getD m "")))) rfl (fun i H' _ x => by rw [x]; exact same_sqL (same_new nD) h2) ?_ ?_⟩
    · rintro i x H' hx rfl
      obtain ⟨m, hmm, rfl⟩ := get_map hx
      have lt := hm m (List.mem_of_getElem? hmm)
      have li := (List.getElem?_eq_some_iff.mp hmm).1
      refine ⟨rfl, _, rfl, _, rfl, sl, _, _, _, rfl, rfl, same_sqL (same_new nD) h1, atI_nat (signs_get lt), _, upd_same, ?_, ?_⟩
      · unfold sV
        rw [List.length_map, List.length_map, List.length_take]
        omega
      · rw [upd_upd, List.take_add_one, hmm]
        simp [sV]
    · rintro H' rfl
      have e : marks.take (nV marks).length = marks := List.take_of_length_le (by unfold nV; rw [List.length_map]; exact Nat.le_refl _)
      rw [e]
      have hs := sum_ones (marks.map fun m => signs.getD m "") fun y hy => by
        obtain ⟨m, hmm, rfl⟩ := List.mem_map.mp hy
        have lt := hm m hmm
        rw [List.getD_eq_getElem?_getD, List.getElem?_eq_getElem lt]
        exact hz _ (List.getElem_mem lt)
      rw [List.length_map] at hs
      have e0 : ("" : Str).length = 0 := by decide +kernel
      exact ⟨_, D, _, rfl, rfl, .inl (SqL.of upd_same), by rw [e0, List.length_map]; omega, k _ (same_new nD)⟩
/-! ### marks_there -/
def spMarks (K : PySem.W.Frag) : Sp := fun vs H Q _ => ∃ (many : Nat) (dl : Addr) (da : List Addr) (ds : List Deed), vs = [.int (many : Nat), .ref dl] ∧ DeedsAt H dl da ds ∧ (∀ d ∈ ds, d.2.2.1 < many) ∧ many ≤ 10000 ∧
  ∀ (D : Addr) (H' : Hp), Same H H' → H D = none → H' D = some (.lst (bV (thereR many ds))) → Q (.ref D) H'
abbrev nmMarks : List Str := ["many", "deeds", "there", "hand", "sign", "mark", "stands"]
theorem sc_marks : FnScope nmMarks ["many", "deeds"] (defScope s_marks_there) := ⟨rfl, rfl, rfl, by decide +kernel, rfl, by decide +kernel, by decide +kernel⟩
theorem thereR_take {many : Nat} {ds : List Deed} {i : Nat} {d : Deed} (h : ds[i]? = some d) : thereR many (ds.take (i + 1)) = markR (thereR many (ds.take i)) d := by
  unfold thereR
  rw [List.take_add_one, h, Option.toList_some, List.foldl_append, List.foldl_cons, List.foldl_nil]
theorem ok_marks {f : Addr} {fd : FuncData} (F : Fun K "marks_there" "marks_there" s_marks_there f fd) : FnOk P w K mg base CX0 1 f fd ["many", "deeds"] (spMarks K) := by
  refine F.ok sc_marks (fun vs H Q E h => ?_) (fun cdv A outer s H vs Q E hr h => ?_)
  · obtain ⟨many, dl, da, ds, rfl, _⟩ := h
    rfl
  · obtain ⟨many, dl, da, ds, rfl, hD, hm, hl, k⟩ := h
    have nd := sc_marks.nd
    have szl : (10000 : Nat) < sizeLine := by decide
    refine ⟨_, pss_cons (ps_set (i := 2) nd rfl (.inl rfl) (pe_op op_rep (pe_lst (pa_cons pe_bl pa_nil)) (pv 0)))
      (pss_cons (ps_for PassesOwn.never rfl (pi_list (pv 1)) (pg_tup rfl (pgs_cons (pg_name (i := 3) nd rfl (.inl rfl)) (pgs_cons (pg_name (i := 4) nd rfl (.inl rfl)) (pgs_cons (pg_name (i := 5) nd rfl (.inl rfl)) (pgs_cons (pg_name (i := 6) nd rfl (.inl rfl)) pgs_nil)))))
        (pss_one (ps_if (pt_cmpR op_eq (pv 6) (pe_cmpR op_eq (pv 4) pe_str (nomark _)) (nomark _)) (pss_one (ps_asg pe_bl (pg_sub (pv 2) (pv 5) set_list))) pss_nil)))
      (pss_one (ps_ret (pv 2)))), ?_⟩
    refine ⟨by show 1 ≤ sizeLine; decide, fun l0 n0 => ⟨_, rfl, l0, _, _, rfl, rfl, upd_same, by omega, by omega, by simp; omega, fun D nD => ?_⟩⟩
    have x0 := same_new (o := .lst [V.bl true]) n0
    have nD0 : H D = none := same_old x0 nD
    have e0 : (List.replicate ((many : Nat) : Int).toNat [V.bl true]).flatten = bV (List.replicate many true) := by
      simp [bV]
    rw [e0]
    have hx : ∀ {o : HO}, Same H (upd (upd H l0 (.lst [V.bl true])) D o) := same_upd x0 nD0
    refine ⟨_, rfl, dl, rfl, ⟨_, SqL.of (hx _ _ hD.lst)⟩, for_list (xs := da.map V.ref) (fun i σ H' => H' = upd (upd H l0 (.lst [V.bl true])) D (.lst (bV (thereR many (ds.take i)))) ∧ ∃ c3 c4 c5 c6 : Option V, σ = [some (.int (many : Nat)), some (.ref dl), some (.ref D), c3, c4, c5, c6]) ⟨rfl, none, none, none, none, rfl⟩ (fun i σ H' _ x => by rw [x.1]; exact SqL.of (hx _ _ hD.lst)) ?_ ?_⟩
    · rintro i x σ H1 hx1 ⟨rfl, c3, c4, c5, c6, rfl⟩
      obtain ⟨t, ht, rfl⟩ := get_map hx1
      obtain ⟨d, hd⟩ := getP (xs := ds) (i := i) (by rw [← hD.len]; exact (List.getElem?_eq_some_iff.mp ht).1)
      have h3 := hD.at_ i t d ht hd
      have lt := hm d (List.mem_of_getElem? hd)
      refine ⟨t, _, rfl, .inl (.inl (hx _ _ h3)), rfl, _, _, rfl, _, _, rfl, _, _, rfl, _, _, rfl, rfl, ?_⟩
      rw [thereR_take hd]
      refine ⟨_, rfl, _, rfl, rfl, rfl, _, rfl, ?_⟩
      have e1 : decide (V.bl d.2.2.2 = V.bl (decide (V.str d.2.1 = V.str ""))) = decide (d.2.2.2 = decide (d.2.1 = "")) := by
        have : decide (V.str d.2.1 = V.str "") = decide (d.2.1 = "") := by simp
        rw [this]
        simp
      rw [e1]
      by_cases c : d.2.2.2 = decide (d.2.1 = "")
      · rw [decide_eq_true c]
        refine iteT ⟨_, rfl, _, rfl, D, _, _, d.2.2.1, rfl, rfl, upd_same, ixN_nat (by unfold bV; rw [List.length_map, thereR_len]; exact lt), ?_⟩
        refine ⟨?_, _, _, _, _, rfl⟩
        rw [upd_upd]
        unfold markR
        rw [if_pos c]
        simp [bV, List.map_set]
      · rw [decide_eq_false c]
        refine iteF ⟨?_, _, _, _, _, rfl⟩
        unfold markR
        rw [if_neg c]
    · rintro σ H1 ⟨rfl, c3, c4, c5, c6, rfl⟩
      refine ⟨_, rfl, k D _ hx nD0 ?_⟩
      have e : ds.take (da.map V.ref).length = ds := List.take_of_length_le (by rw [List.length_map, hD.len]; exact Nat.le_refl _)
      rw [upd_same, e]
/-! ### first_there -/
def spFirst (K : PySem.W.Frag) : Sp := fun vs H Q _ => ∃ (ol tl : Addr) (order : List Nat) (there : List Bool) (spot : Nat), vs = [.ref ol, .ref tl, .int (spot : Nat)] ∧ SqL K H ol (nV order) ∧ SqL K H tl (bV there) ∧ (∀ m ∈ order, m < there.length) ∧ order.length ≤ 10000 ∧ spot ∈ order ∧
  (∃ m ∈ order.drop (order.idxOf spot), there.getD m false = true) ∧ Q (.int (firstR order there spot : Nat)) H
abbrev nmFirst : List Str := ["order", "there", "spot", "number"]
theorem sc_first : FnScope nmFirst ["order", "there", "spot"] (defScope s_first_there) := ⟨rfl, rfl, rfl, by decide +kernel, rfl, by decide +kernel, by decide +kernel⟩
theorem idx_nat {l : List Nat} {p : Nat} (h : p ∈ l) : l[l.idxOf p]? = some p ∧ l.idxOf p < l.length ∧ ∀ m z, m < l.idxOf p → l[m]? = some z → z ≠ p := by
  have h1 := List.idxOf_lt_length_of_mem h
  refine ⟨by rw [List.getElem?_eq_getElem h1, List.getElem_idxOf], h1, fun m z hm hz e => ?_⟩
  subst e
  have h2 := (List.getElem?_eq_some_iff.mp hz).2
  have h3 : m < l.length := (List.getElem?_eq_some_iff.mp hz).1
  have := List.not_of_lt_findIdx (p := (· == z)) (xs := l) (i := m) hm
  simp [h2] at this
theorem firstR_from {order : List Nat} {there : List Bool} {i m : Nat} (h : order[i]? = some m) : (order.drop i).find? (fun m => there.getD m false) = if there.getD m false = true then some m else (order.drop (i + 1)).find? (fun m => there.getD m false) := by
  have lt := (List.getElem?_eq_some_iff.mp h).1
  have e := (List.getElem?_eq_some_iff.mp h).2
  rw [List.drop_eq_getElem_cons lt, e, List.find?_cons]
  cases there.getD m false <;> rfl
theorem ok_first {f : Addr} {fd : FuncData} (F : Fun K "first_there" "first_there" s_first_there f fd) : FnOk P w K mg base CX0 1 f fd ["order", "there", "spot"] (spFirst K) := by
  refine F.ok sc_first (fun vs H Q E h => ?_) (fun cdv A outer s H vs Q E hr h => ?_)
  · obtain ⟨ol, tl, order, there, spot, rfl, _⟩ := h
    rfl
  · obtain ⟨ol, tl, order, there, spot, rfl, h1, h2, hm, hl, hs, hx, k⟩ := h
    have nd := sc_first.nd
    refine ⟨_, pss_cons (ps_set (i := 3) nd rfl (.inl rfl) (pe_bm PySem.F.plainAttrs_list PySem.F.slot_list_index PySem.F.type_list_index mt_index (pv 0) (pa_cons (pv 2) pa_nil)))
      (pss_cons (ps_while PassesOwn.never (pt_not (pt_val (pe_ix ix_list (pv 1) (pe_ix ix_list (pv 0) (pv 3) (fun _ _ => rfl)) (fun _ _ => rfl)))) (pss_one (ps_aug (i := 3) nd rfl (.inl rfl) pe_int ip_add)))
      (pss_one (ps_ret (pe_ix ix_list (pv 0) (pv 3) (fun _ _ => rfl))))), ?_⟩
    obtain ⟨g1, g2, g3⟩ := idx_nat hs
    have fl : (nV order).all flatV = true := by
      unfold nV
      rw [List.all_map]
      exact List.all_eq_true.mpr fun x _ => rfl
    refine ⟨_, rfl, .inl ⟨rfl, _, h1⟩, _, rfl, ol, nV order, .int (spot : Nat), order.idxOf spot, .int (spot : Nat), rfl, rfl, h1, rfl, fl, nV_get g1, by simp [eqV], fun m z hm2 hz => ?_, ?_⟩
    · obtain ⟨q, hq, rfl⟩ := get_map hz
      have ne := g3 m q hm2 hq
      have : ¬ ((q : Int) = (spot : Int)) := by omega
      simp [eqV, this]
    obtain ⟨m0, hm0, ht0⟩ := hx
    have ex0 : ∃ m, (order.drop (order.idxOf spot)).find? (fun m => there.getD m false) = some m := by
      cases e : (order.drop (order.idxOf spot)).find? (fun m => there.getD m false) with
      | some m => exact ⟨m, rfl⟩
      | none => exact absurd ht0 (by have := List.find?_eq_none.mp e m0 hm0; simpa using this)
    have hf : firstR order there spot = ((order.drop (order.idxOf spot)).find? fun m => there.getD m false).getD 0 := rfl
    obtain ⟨mF, hF⟩ := ex0
    rw [hF] at hf
    refine while_by (fun σ H' => H' = H ∧ ∃ i : Nat, σ = [some (.ref ol), some (.ref tl), some (.int (spot : Nat)), some (.int (i : Nat))] ∧ i < order.length ∧ (order.drop i).find? (fun m => there.getD m false) = some mF) (fun σ _ => match σ with | [_, _, _, some (.int i)] => order.length - i.toNat | _ => 0) ⟨rfl, _, rfl, g2, hF⟩ ?_ ?_
    · rintro σ H' ⟨rfl, i, rfl, hi, hfi⟩
      obtain ⟨m, hmi⟩ := getP (xs := order) (i := i) hi
      have lt := hm m (List.mem_of_getElem? hmi)
      rw [firstR_from hmi] at hfi
      refine ⟨_, rfl, _, rfl, _, rfl, ol, _, _, _, rfl, rfl, h1, atI_nat (nV_get hmi), tl, _, _, _, rfl, rfl, h2, atI_nat (bV_get lt), there.getD m false, rfl, ?_⟩
      cases e : there.getD m false with
      | true =>
        rw [e] at hfi
        cases hfi
        refine iteF ?_
        refine ⟨_, rfl, _, rfl, ol, _, _, _, rfl, rfl, h1, atI_nat (nV_get hmi), ?_⟩
        rw [hf] at k
        exact k
      | false =>
        rw [e] at hfi
        refine iteT ⟨_, rfl, _, _, rfl, rfl, ⟨rfl, i + 1, rfl, ?_, hfi⟩, ?_⟩
        · by_cases c : i + 1 < order.length
          · exact c
          · have hfi : (order.drop (i + 1)).find? (fun m => there.getD m false) = some mF := hfi
            rw [List.drop_eq_nil_of_le (by omega)] at hfi
            cases hfi
        · show order.length - (((i : Nat) : Int) + 1).toNat < order.length - (((i : Nat) : Int)).toNat
          omega
    · intro σ H' Q Q' hQ h
      obtain ⟨v1, e1, v2, e2, v3, e3, p, xs, i, v, a1, a2, a3, a4, p', xs', i', v', b1, b2, b3, b4, c, hc, q⟩ := h
      exact ⟨v1, e1, v2, e2, v3, e3, p, xs, i, v, a1, a2, a3, a4, p', xs', i', v', b1, b2, b3, b4, c, hc, hQ _ _ q⟩
end
end TG


namespace TG
open PySem PySem.Spec PyProof.Rows L2 Gx
/-! ### a table as it stands -/
structure TSt where
  signs : List Str
  order : List Nat
  there : List Bool
  deeds : List Deed
  spots : List Nat
  undone : List (List Nat)
structure TA where
  dx : Addr
  st : Addr
  sg : Addr
  od : Addr
  th : Addr
  dl : Addr
  sp : Addr
  ud : Addr
  da : List Addr
  ua : List Addr
abbrev TA.fs (a : TA) : List (Str × V) := [("style", .ref a.st), ("signs", .ref a.sg), ("order", .ref a.od), ("there", .ref a.th), ("deeds", .ref a.dl), ("spots", .ref a.sp), ("undone", .ref a.ud)]
structure TabC (K : PySem.W.Frag) (B : Addr) : Prop where
  cls : Cls K B
  nStyle : NoAttr K B "style"
  nSigns : NoAttr K B "signs"
  nOrder : NoAttr K B "order"
  nThere : NoAttr K B "there"
  nDeeds : NoAttr K B "deeds"
  nSpots : NoAttr K B "spots"
  nUndone : NoAttr K B "undone"
structure TabD (B : Addr) (H : Hp) (tb : Addr) (a : TA) (S : TSt) : Prop where
  ob : H tb = some (.ins B a.dx a.fs)
  sg : H a.sg = some (.lst (sV S.signs))
  od : H a.od = some (.lst (nV S.order))
  th : H a.th = some (.lst (bV S.there))
  de : DeedsAt H a.dl a.da S.deeds
  sp : H a.sp = some (.lst (nV S.spots))
  ud : H a.ud = some (.lst (a.ua.map V.ref))
  ul : a.ua.length = S.undone.length
  un : ∀ (i : Nat) (u : Addr) (l : List Nat), a.ua[i]? = some u → S.undone[i]? = some l → H u = some (.lst (nV l))
  nd : (a.sp :: a.ud :: a.ua).Nodup
  dj : ∀ c ∈ a.sp :: a.ud :: a.ua, c ≠ a.sg ∧ c ≠ a.od ∧ c ≠ a.th ∧ c ≠ a.dl
/-- what a table may change -/
def ownT (tb : Addr) (a : TA) : Addr → Prop := fun c => c = tb ∨ c = a.sg ∨ c = a.od ∨ c = a.th ∨ c = a.dl ∨ c = a.sp ∨ c = a.ud ∨ c ∈ a.ua
section
variable {B tb : Addr} {H H' : Hp} {a : TA} {S : TSt} {A : Addr → Prop}
theorem TabD.mob (o : TabD B H tb a S) : Mob H (ownT tb a) := fun c hc => by
  rcases hc with e | e | e | e | e | e | e | e
  · exact .inr ⟨_, _, _, e ▸ o.ob⟩
  · exact .inl ⟨_, e ▸ o.sg⟩
  · exact .inl ⟨_, e ▸ o.od⟩
  · exact .inl ⟨_, e ▸ o.th⟩
  · exact .inl ⟨_, e ▸ o.de.lst⟩
  · exact .inl ⟨_, e ▸ o.sp⟩
  · exact .inl ⟨_, e ▸ o.ud⟩
  · obtain ⟨i, hi⟩ := List.mem_iff_getElem?.mp e
    obtain ⟨l, hl⟩ := getP (xs := S.undone) (i := i) (by rw [← o.ul]; exact (List.getElem?_eq_some_iff.mp hi).1)
    exact .inl ⟨_, o.un i c l hi hl⟩
theorem TabD.km (o : TabD B H tb a S) (x : KM A H H') (m : Mob H A) (n : ∀ c, ownT tb a c → ¬ A c) : TabD B H' tb a S := by
  have f : ∀ {c : Addr} {xs : List V}, ownT tb a c → H c = some (.lst xs) → H' c = some (.lst xs) := fun {c xs} hc h => x _ _ h (fun ps z => by cases z) (n c hc)
  exact ⟨x _ _ o.ob (fun ps z => by cases z) (n _ (.inl rfl)), f (.inr (.inl rfl)) o.sg, f (.inr (.inr (.inl rfl))) o.od, f (.inr (.inr (.inr (.inl rfl)))) o.th,
    ⟨f (.inr (.inr (.inr (.inr (.inl rfl))))) o.de.lst, o.de.len, fun i t d h1 h2 => tup_km x m (o.de.at_ i t d h1 h2)⟩, f (.inr (.inr (.inr (.inr (.inr (.inl rfl)))))) o.sp,
    f (.inr (.inr (.inr (.inr (.inr (.inr (.inl rfl))))))) o.ud, o.ul, fun i u l h1 h2 => f (.inr (.inr (.inr (.inr (.inr (.inr (.inr (List.mem_of_getElem? h1)))))))) (o.un i u l h1 h2), o.nd, o.dj⟩
theorem TabD.gw (o : TabD B H tb a S) (x : LamX.ExtN H H') : TabD B H' tb a S := o.km (A := fun _ => False) (KM.of x) (fun c h => h.elim) fun c _ h => h
theorem same_extN {H H' : Hp} (x : Same H H') : LamX.ExtN H H' := fun b o h _ => x b o h
theorem TabD.same (o : TabD B H tb a S) (x : Same H H') : TabD B H' tb a S := o.gw (same_extN x)
/-- one of its lists is written -/
theorem upd_own {c : Addr} {o : HO} (h : ownT tb a c) : KM (ownT tb a) H (upd H c o) := fun b u hb _ n => by rw [upd_ne (fun z => n (by rw [z]; exact h))]; exact hb
theorem upd_ownN {cs : List (Addr × Addr)} {c : Addr} {o : HO} (h : ownT tb a c) : KN cs (ownT tb a) H (upd H c o) := fun b u hb _ n => by rw [upd_ne (fun z => n (by rw [z]; exact h))]; exact hb
theorem TabD.hand (o : TabD B H tb a S) (l : List Nat) : TabD B (upd H a.sp (.lst (nV l))) tb a { S with spots := l } := by
  have d := o.dj a.sp (by simp)
  have nd := o.nd
  rw [List.nodup_cons, List.mem_cons, List.nodup_cons] at nd
  have f : ∀ {c : Addr} {u : HO}, c ≠ a.sp → H c = some u → upd H a.sp (.lst (nV l)) c = some u := fun n h => by rw [upd_ne n]; exact h
  have ft : ∀ {c : Addr} {us : List V}, H c = some (.tup us) → c ≠ a.sp := fun h e => by rw [e, o.sp] at h; cases h
  exact ⟨f (fun e => by have := o.ob; rw [e, o.sp] at this; cases this) o.ob, f d.1.symm o.sg, f d.2.1.symm o.od, f d.2.2.1.symm o.th,
    ⟨f d.2.2.2.symm o.de.lst, o.de.len, fun i t dd h1 h2 => f (ft (o.de.at_ i t dd h1 h2)) (o.de.at_ i t dd h1 h2)⟩, upd_same, f (fun e => nd.1 (.inl e.symm)) o.ud, o.ul,
    fun i u m h1 h2 => f (fun e => nd.1 (.inr (e ▸ List.mem_of_getElem? h1))) (o.un i u m h1 h2), o.nd, o.dj⟩
end
/-! ### what it is for -/
structure TOk (S : TSt) : Prop where
  one : ∀ z ∈ S.signs, z.length ≤ 1
  many : S.signs.length ≤ 9000
  ord : ∀ m ∈ S.order, m < S.signs.length
  ol : S.order.length ≤ 9000
  tl : S.there.length = S.signs.length
  dm : ∀ d ∈ S.deeds, d.2.2.1 < S.signs.length
  dn : S.deeds.length ≤ 9000
  sp : ∀ s ∈ S.spots, s ∈ thoseR S.order S.there
  hn : S.spots.length = S.undone.length
  h4 : S.spots.length ≤ 4
  un : ∀ l ∈ S.undone, l.length ≤ 9000 ∧ ∀ n ∈ l, n < S.deeds.length
abbrev hereR (S : TSt) : List Nat := thoseR S.order S.there
def nearR (S : TSt) (h : Nat) (by_ : Int) : Option Nat :=
  if 0 ≤ (((hereR S).idxOf (S.spots.getD h 0) : Nat) : Int) + by_ ∧ (((hereR S).idxOf (S.spots.getD h 0) : Nat) : Int) + by_ < ((hereR S).length : Nat) then (hereR S)[((((hereR S).idxOf (S.spots.getD h 0) : Nat) : Int) + by_).toNat]? else none
def goR1 (S : TSt) (h : Nat) (by_ : Int) : Bool × TSt := match nearR S h by_ with
  | none => (false, S)
  | some m => (true, { S with spots := S.spots.set h m })
def nonN : Option Nat → V
  | none => .non
  | some n => .int (n : Nat)
theorem hereR_len (S : TSt) : (hereR S).length ≤ S.order.length := List.length_filter_le _ _
theorem hereR_lt {S : TSt} (o : TOk S) : ∀ m ∈ hereR S, m < S.signs.length := fun m hm => o.ord m (List.mem_filter.mp hm).1
theorem nV_len (l : List Nat) : (nV l).length = l.length := by unfold nV; rw [List.length_map]
theorem getD_spot {S : TSt} {h : Nat} (hh : h < S.spots.length) : S.spots[h]? = some (S.spots.getD h 0) := by
  rw [List.getD_eq_getElem?_getD, List.getElem?_eq_getElem hh]
  rfl
theorem tabs_lst {cs : List (Addr × Addr)} {H : Hp} {a : Addr} {us : List V} {o : HO} (t : Tabs cs H) (h : H a = some (.lst us)) : Tabs cs (upd H a o) := fun p hp => by
  obtain ⟨ps, h1, h2⟩ := t p hp
  exact ⟨ps, by rw [upd_ne fun z => by rw [z, h] at h1; cases h1]; exact h1, h2⟩
theorem upd_old {H : Hp} {a : Addr} {u o : HO} (h : H a = some u) {b : Addr} (hb : upd H a o b = none) : H b = none := by
  by_cases z : b = a
  · rw [z, upd_same] at hb; cases hb
  · rw [upd_ne z] at hb; exact hb
theorem ints_flat (l : List Nat) : (nV l).all flatV = true := by
  unfold nV
  rw [List.all_map]
  exact List.all_eq_true.mpr fun x _ => rfl
theorem ints_no {l : List Nat} {p : Nat} (g : ∀ m z, m < l.idxOf p → l[m]? = some z → z ≠ p) (m : Nat) (z : V) (hm : m < l.idxOf p) (hz : (nV l)[m]? = some z) : eqV z (.int (p : Nat)) = false := by
  obtain ⟨q, hq, rfl⟩ := get_map hz
  have ne := g m q hm hq
  have : ¬ ((q : Int) = (p : Int)) := by omega
  simp [eqV, this]
section
variable {P : Program} {w : World} {K : PySem.W.Frag} {mg : Str → Option Value} {base : Heap} {cs : List (Addr × Addr)} {B : Addr}
def spWholeB : Sp := fun vs H Q _ => ∃ (i lo hi : Int), vs = [.int i, .int lo, .int hi] ∧ Q (.bl (decide (lo ≤ i ∧ i ≤ hi))) H
theorem ok_wholeB {f : Addr} {fd : FuncData} (T : Txt mg) (F : Fun K "is_whole" "is_whole" s_is_whole f fd) : FnOk P w K mg base CX0 1 f fd ["value", "low", "high"] spWholeB := by
  refine F.ok sc_whole (fun vs H Q E h => ?_) (fun cdv A outer s H vs Q E hr h => ?_)
  · obtain ⟨i, lo, hi, rfl, _⟩ := h
    rfl
  · obtain ⟨i, lo, hi, rfl, k⟩ := h
    refine ⟨_, pss_one (ps_ret (pe_and (pe_callB call_isi (by rfl) T.isin (by decide +kernel) (pa_cons (pv 0) (pa_cons (pe_bltn (v := .ty "int") (by rfl) T.int (by decide +kernel) rfl) pa_nil)))
      (pe_and (pe_not (pe_callB call_isi (by rfl) T.isin (by decide +kernel) (pa_cons (pv 0) (pa_cons (pe_bltn (v := .ty "bool") (by rfl) T.bool (by decide +kernel) rfl) pa_nil)))) (pe_one (pe_chain op_le op_le (pv 1) (pv 0) (pv 2)))))), ?_⟩
    refine ⟨_, rfl, _, _, _, _, true, rfl, .ty _, .base (.int i), kit_ty (by decide +kernel), true, rfl, iteT ⟨_, rfl, _, _, _, _, false, rfl, .ty _, .base (.int i), kit_ty (by decide +kernel), false, rfl, true, rfl, iteT ⟨_, rfl, _, rfl, lo, i, rfl, rfl, ?_⟩⟩⟩
    by_cases h1 : lo ≤ i
    · refine ⟨true, dT h1, iteT ⟨_, rfl, i, hi, rfl, rfl, ?_⟩⟩
      have e : decide (lo ≤ i ∧ i ≤ hi) = decide (i ≤ hi) := by simp [h1]
      rw [e] at k
      exact k
    · have e : decide (lo ≤ i ∧ i ≤ hi) = false := decide_eq_false fun z => h1 z.1
      rw [e] at k
      exact ⟨false, dF h1, iteF k⟩
/-! ### check_hand -/
def spHand (B : Addr) : Sp := fun vs H Q _ => ∃ (tb : Addr) (h : Nat) (a : TA) (S : TSt), vs = [.ref tb, .int (h : Nat)] ∧ TabD B H tb a S ∧ h < S.spots.length ∧ Q .non H
theorem sc_chand : FnScope ["self", "hand"] ["self", "hand"] (defScope (mth nTable 11)) := ⟨rfl, rfl, rfl, by decide +kernel, rfl, by decide +kernel, by decide +kernel⟩
theorem ok_chand {f g : Addr} {fd fdg : FuncData} (T : Txt mg) (X : TabC K B) (F : Fun K "check_hand" "Table.check_hand" (mth nTable 11) f fd)
    (W : FnOk P w K mg base CX0 1 g fdg ["value", "low", "high"] spWholeB) (kp : PySem.W.keepIn K (.ref g) = true) (bd : Binds K fdg ["value", "low", "high"] []) (mgg : mg "is_whole" = some (.ref g)) : FnOk P w K mg base CX0 2 f fd ["self", "hand"] (spHand B) := by
  refine F.ok sc_chand (fun vs H Q E h => ?_) (fun cdv A outer s H vs Q E hr h => ?_)
  · obtain ⟨tb, h, a, S, rfl, _⟩ := h
    rfl
  · obtain ⟨tb, h, a, S, rfl, hD, hh, k⟩ := h
    refine ⟨_, pss_one (ps_if (pt_not (pt_val (pe_call W hr (by rfl) mgg kp bd .nil pass0 (pa_cons (pv 1) (pa_cons pe_int (pa_cons (pe_op op_sub (pe_callB call_len_seq (by rfl) T.len PySem.boot_len (pa_cons (pe_fld (pv 0) rfl) pa_nil)) pe_int) pa_nil)))))) (pss_one ps_never) pss_nil), ?_⟩
    refine ⟨_, rfl, _, rfl, tb, B, a.dx, _, _, rfl, hD.ob, X.cls, X.nSpots, rfl, a.sp, _, rfl, .inl (SqL.of hD.sp), _, _, rfl, rfl, _, _, _, rfl, true, ?_, iteF k⟩
    rw [nV_len, decide_eq_true ⟨by omega, by omega⟩]
/-! ### present -/
def spPresent (B : Addr) : Sp := fun vs H Q _ => ∃ (tb : Addr) (a : TA) (S : TSt), vs = [.ref tb] ∧ TabD B H tb a S ∧ TOk S ∧ ∀ D, H D = none → Q (.ref D) (upd H D (.lst (nV (hereR S))))
theorem sc_present : FnScope ["self"] ["self"] (defScope (mth nTable 12)) := ⟨rfl, rfl, rfl, by decide +kernel, rfl, by decide +kernel, by decide +kernel⟩
theorem ok_present {f g : Addr} {fd fdg : FuncData} (X : TabC K B) (F : Fun K "present" "Table.present" (mth nTable 12) f fd)
    (G : FnOk P w K mg base CX0 1 g fdg ["order", "there"] (spThose K)) (kp : PySem.W.keepIn K (.ref g) = true) (bd : Binds K fdg ["order", "there"] []) (mgg : mg "those_there" = some (.ref g)) : FnOk P w K mg base CX0 2 f fd ["self"] (spPresent B) := by
  refine F.ok sc_present (fun vs H Q E h => ?_) (fun cdv A outer s H vs Q E hr h => ?_)
  · obtain ⟨tb, a, S, rfl, _⟩ := h
    rfl
  · obtain ⟨tb, a, S, rfl, hD, hO, k⟩ := h
    refine ⟨_, pss_one (ps_ret (pe_call G hr (by rfl) mgg kp bd .nil pass0 (pa_cons (pe_fld (pv 0) rfl) (pa_cons (pe_fld (pv 0) rfl) pa_nil)))), ?_⟩
    exact ⟨_, rfl, tb, B, a.dx, _, _, rfl, hD.ob, X.cls, X.nOrder, rfl, _, rfl, tb, B, a.dx, _, _, rfl, hD.ob, X.cls, X.nThere, rfl, a.od, a.th, S.order, S.there, rfl, SqL.of hD.od, SqL.of hD.th, fun m hm => by rw [hO.tl]; exact hO.ord m hm, by have := hO.ol; omega, k⟩
/-! ### near -/
def spNear (B : Addr) : Sp := fun vs H Q _ => ∃ (tb : Addr) (h : Nat) (by_ : Int) (a : TA) (S : TSt), vs = [.ref tb, .int (h : Nat), .int by_] ∧ TabD B H tb a S ∧ TOk S ∧ h < S.spots.length ∧ ∀ H', Same H H' → Q (nonN (nearR S h by_)) H'
abbrev nmNear : List Str := ["self", "hand", "by", "present", "number"]
theorem sc_near : FnScope nmNear ["self", "hand", "by"] (defScope (mth nTable 13)) := ⟨rfl, rfl, rfl, by decide +kernel, rfl, by decide +kernel, by decide +kernel⟩
theorem ok_near {f g : Addr} {fd fdg : FuncData} (T : Txt mg) (X : TabC K B) (F : Fun K "near" "Table.near" (mth nTable 13) f fd)
    (M : Meth K B "present" g) (G : FnOk P w K mg base CX0 2 g fdg ["self"] (spPresent B)) (bd : Binds K fdg ["self"] []) : FnOk P w K mg base CX0 3 f fd ["self", "hand", "by"] (spNear B) := by
  refine F.ok sc_near (fun vs H Q E h => ?_) (fun cdv A outer s H vs Q E hr h => ?_)
  · obtain ⟨tb, h, by_, a, S, rfl, _⟩ := h
    rfl
  · obtain ⟨tb, h, by_, a, S, rfl, hD, hO, hh, k⟩ := h
    have nd := sc_near.nd
    refine ⟨_, pss_cons (ps_set (i := 3) nd rfl (.inl rfl) (pe_meth0 (pv 0) X.cls M G hr bd .nil pass0))
      (pss_cons (ps_set (i := 4) nd rfl (.inl rfl) (pe_op op_add (pe_bm PySem.F.plainAttrs_list PySem.F.slot_list_index PySem.F.type_list_index mt_index (pv 3) (pa_cons (pe_ix ix_list (pe_fld (pv 0) rfl) (pv 1) (fun _ _ => rfl)) pa_nil)) (pv 2)))
      (pss_cons (ps_if (pt_chain op_le op_lt pe_int (pv 4) (pe_callB call_len_seq (by rfl) T.len PySem.boot_len (pa_cons (pv 3) pa_nil))) (pss_one (ps_ret (pe_ix ix_list (pv 3) (pv 4) (fun _ _ => rfl)))) pss_nil)
      (pss_one (ps_ret pe_non)))), ?_⟩
    refine ⟨_, rfl, tb, a.dx, _, rfl, hD.ob, rfl, tb, a, S, rfl, hD, hO, fun D nD => ?_⟩
    have x1 := same_new (o := .lst (nV (hereR S))) nD
    have hD1 := hD.same x1
    have h1 : upd H D (.lst (nV (hereR S))) D = some (.lst (nV (hereR S))) := upd_same
    generalize upd H D (.lst (nV (hereR S))) = H1 at x1 hD1 h1 ⊢
    have hs := getD_spot hh
    obtain ⟨g1, g2, g3⟩ := idx_nat (hO.sp _ (List.mem_of_getElem? hs))
    refine ⟨_, rfl, .inl ⟨rfl, _, SqL.of h1⟩, _, rfl, tb, B, a.dx, _, _, rfl, hD1.ob, X.cls, X.nSpots, rfl, _, rfl, a.sp, _, _, _, rfl, rfl, SqL.of hD1.sp, atI_nat (nV_get hs), D, nV (hereR S), .int (S.spots.getD h 0 : Nat), (hereR S).idxOf (S.spots.getD h 0), .int (S.spots.getD h 0 : Nat), rfl, rfl, SqL.of h1, rfl, ints_flat _, nV_get g1, by simp [eqV], ints_no g3, ?_⟩
    refine ⟨_, rfl, _, _, rfl, rfl, ?_⟩
    have eb : nearR S h by_ = if 0 ≤ (((hereR S).idxOf (S.spots.getD h 0) : Nat) : Int) + by_ ∧ (((hereR S).idxOf (S.spots.getD h 0) : Nat) : Int) + by_ < ((hereR S).length : Nat) then (hereR S)[((((hereR S).idxOf (S.spots.getD h 0) : Nat) : Int) + by_).toNat]? else none := rfl
    dsimp only
    generalize (((hereR S).idxOf (S.spots.getD h 0) : Nat) : Int) + by_ = n at eb ⊢
    refine ⟨_, rfl, 0, n, rfl, rfl, ?_⟩
    by_cases c1 : 0 ≤ n
    · refine ⟨true, dT c1, iteT ⟨_, rfl, D, _, rfl, .inl (SqL.of h1), n, _, rfl, rfl, ?_⟩⟩
      rw [nV_len]
      by_cases c2 : n < ((hereR S).length : Nat)
      · refine ⟨true, dT c2, iteT ?_⟩
        obtain ⟨m, rfl⟩ := Int.eq_ofNat_of_zero_le c1
        have hm : m < (hereR S).length := by omega
        rw [if_pos ⟨c1, c2⟩] at eb
        have em : ((m : Nat) : Int).toNat = m := rfl
        rw [em] at eb
        obtain ⟨q, hq⟩ := getP (xs := hereR S) (i := m) hm
        refine ⟨_, rfl, _, rfl, D, _, _, .int (q : Nat), rfl, rfl, SqL.of h1, atI_nat (nV_get hq), ?_⟩
        have := k _ x1
        rw [eb, hq] at this
        exact this
      · refine ⟨false, dF c2, iteF ?_⟩
        rw [if_neg fun z => c2 z.2] at eb
        have := k _ x1
        rw [eb] at this
        exact this
    · refine ⟨false, dF c1, iteF ?_⟩
      rw [if_neg fun z => c1 z.1] at eb
      have := k _ x1
      rw [eb] at this
      exact ⟨_, rfl, iteF this⟩
/-! ### go, right -/
/-- what a table does, if it doesn't fail -/
def Went (cs : List (Addr × Addr)) (B : Addr) (H : Hp) (tb : Addr) (a : TA) (S' : TSt) (Q : Hp → Prop) : Prop :=
  ∀ (a' : TA) (H' : Hp), a'.st = a.st → KN cs (ownT tb a) H H' → (∀ c, ownT tb a' c → ownT tb a c ∨ H c = none) → Tabs cs H' → (∀ b, H' b = none → H b = none) → TabD B H' tb a' S' → Q H'
def spGo (cs : List (Addr × Addr)) (B : Addr) : Sp := fun vs H Q _ => ∃ (tb : Addr) (h : Nat) (by_ : Int) (a : TA) (S : TSt), vs = [.ref tb, .int (h : Nat), .int by_] ∧ Tabs cs H ∧ TabD B H tb a S ∧ TOk S ∧ h < S.spots.length ∧ Went cs B H tb a (goR1 S h by_).2 fun H' => Q (.bl (goR1 S h by_).1) H'
abbrev nmGo : List Str := ["self", "hand", "by", "mark"]
theorem sc_go : FnScope nmGo ["self", "hand", "by"] (defScope (mth nTable 14)) := ⟨rfl, rfl, rfl, by decide +kernel, rfl, by decide +kernel, by decide +kernel⟩
theorem ok_go {f g : Addr} {fd fdg : FuncData} (X : TabC K B) (F : Fun K "go" "Table.go" (mth nTable 14) f fd)
    (M : Meth K B "near" g) (G : FnOk P w K mg base CX0 3 g fdg ["self", "hand", "by"] (spNear B)) (bd : Binds K fdg ["self", "hand", "by"] []) : FnOk P w K mg base CX0 4 f fd ["self", "hand", "by"] (spGo cs B) := by
  refine F.ok sc_go (fun vs H Q E h => ?_) (fun cdv A outer s H vs Q E hr h => ?_)
  · obtain ⟨tb, h, by_, a, S, rfl, _⟩ := h
    rfl
  · obtain ⟨tb, h, by_, a, S, rfl, hT, hD, hO, hh, k⟩ := h
    have nd := sc_go.nd
    refine ⟨_, pss_cons (ps_set (i := 3) nd rfl (.inl rfl) (pe_meth (pv 0) X.cls M G hr bd .nil pass0 (pa_cons (pv 1) (pa_cons (pv 2) pa_nil))))
      (pss_cons (ps_if (pt_cmpR op_isN (pv 3) pe_non (nomark _)) (pss_one (ps_ret pe_bl)) pss_nil)
      (pss_cons (ps_asg (pv 3) (pg_sub (pe_fld (pv 0) rfl) (pv 1) set_list)) (pss_one (ps_ret pe_bl)))), ?_⟩
    refine ⟨_, rfl, tb, a.dx, _, rfl, hD.ob, rfl, _, rfl, _, rfl, tb, h, by_, a, S, rfl, hD, hO, hh, fun H1 x1 => ?_⟩
    have hD1 := hD.same x1
    have t1 := (same_ex x1 hT).tab
    unfold goR1 at k
    cases e : nearR S h by_ with
    | none =>
      rw [e] at k
      exact ⟨_, rfl, rfl, true, rfl, iteT (k a H1 rfl (KN.same x1) (fun c hc => .inl hc) t1 (fun b hb => same_old x1 hb) hD1)⟩
    | some m =>
      rw [e] at k
      refine ⟨_, rfl, rfl, false, rfl, iteF ⟨_, rfl, _, rfl, tb, B, a.dx, _, _, rfl, hD1.ob, X.cls, X.nSpots, rfl, _, rfl, a.sp, _, _, h, rfl, rfl, hD1.sp, ixN_nat (by rw [nV_len]; exact hh), ?_⟩⟩
      have es : (nV S.spots).set h (nonN (some m)) = nV (S.spots.set h m) := by unfold nV; rw [List.map_set]; rfl
      dsimp only
      rw [es]
      exact k a _ rfl ((KN.same x1).tr (upd_ownN (.inr (.inr (.inr (.inr (.inr (.inl rfl)))))))) (fun c hc => .inl hc) (tabs_lst t1 hD1.sp) (fun b hb => same_old x1 (upd_old hD1.sp hb)) (hD1.hand _)
def spTRight (cs : List (Addr × Addr)) (B : Addr) : Sp := fun vs H Q _ => ∃ (tb : Addr) (h : Nat) (a : TA) (S : TSt), vs = [.ref tb, .int (h : Nat)] ∧ Tabs cs H ∧ TabD B H tb a S ∧ TOk S ∧ h < S.spots.length ∧ Went cs B H tb a (goR1 S h 1).2 fun H' => Q (.bl (goR1 S h 1).1) H'
theorem sc_tright : FnScope ["self", "hand"] ["self", "hand"] (defScope (mth nTable 6)) := ⟨rfl, rfl, rfl, by decide +kernel, rfl, by decide +kernel, by decide +kernel⟩
theorem ok_tright {f g1 g2 : Addr} {fd fd1 fd2 : FuncData} (X : TabC K B) (F : Fun K "right" "Table.right" (mth nTable 6) f fd)
    (M1 : Meth K B "check_hand" g1) (G1 : FnOk P w K mg base CX0 2 g1 fd1 ["self", "hand"] (spHand B)) (b1 : Binds K fd1 ["self", "hand"] [])
    (M2 : Meth K B "go" g2) (G2 : FnOk P w K mg base CX0 4 g2 fd2 ["self", "hand", "by"] (spGo cs B)) (b2 : Binds K fd2 ["self", "hand", "by"] []) : FnOk P w K mg base CX0 5 f fd ["self", "hand"] (spTRight cs B) := by
  refine F.ok sc_tright (fun vs H Q E h => ?_) (fun cdv A outer s H vs Q E hr h => ?_)
  · obtain ⟨tb, h, a, S, rfl, _⟩ := h
    rfl
  · obtain ⟨tb, h, a, S, rfl, hT, hD, hO, hh, k⟩ := h
    have r2 : Room 2 _ := hr.mono (by decide)
    refine ⟨_, pss_cons (ps_expr (pe_meth (pv 0) X.cls M1 G1 r2 b1 .nil pass0 (pa_cons (pv 1) pa_nil))) (pss_one (ps_ret (pe_meth (pv 0) X.cls M2 G2 hr b2 .nil pass0 (pa_cons (pv 1) (pa_cons pe_int pa_nil))))), ?_⟩
    exact ⟨_, rfl, tb, a.dx, _, rfl, hD.ob, rfl, _, rfl, tb, h, a, S, rfl, hD, hh, _, rfl, tb, a.dx, _, rfl, hD.ob, rfl, _, rfl, tb, h, 1, a, S, rfl, hT, hD, hO, hh, k⟩
end
end TG


namespace TG
open PySem PySem.Spec PyProof.Rows L2 Gx
/-! ### new tuples in a new list -/
structure TupL (H0 : Hp) (D : Addr) (l : List (List V)) (H : Hp) : Prop where
  sm : Same H0 H
  nD : H0 D = none
  ts : ∃ ts : List Addr, H D = some (.lst (ts.map V.ref)) ∧ ts.length = l.length ∧ ∀ (j : Nat) (t : Addr) (v : List V), ts[j]? = some t → l[j]? = some v → H t = some (.tup v)
theorem TupL.start {H0 : Hp} {D : Addr} (n : H0 D = none) : TupL H0 D [] (upd H0 D (.lst [])) := ⟨same_new n, n, [], upd_same, rfl, fun j t v h => by cases h⟩
theorem TupL.grow {H0 H H' : Hp} {D : Addr} {l : List (List V)} (o : TupL H0 D l H) (x : Same H H') : TupL H0 D l H' := by
  obtain ⟨ts, h1, h2, h3⟩ := o.ts
  exact ⟨fun b u e => x b u (o.sm b u e), o.nD, ts, x _ _ h1, h2, fun j t v e1 e2 => x _ _ (h3 j t v e1 e2)⟩
theorem TupL.more {H0 H : Hp} {D t : Addr} {l : List (List V)} {v : List V} (o : TupL H0 D l H) (ht : H t = some (.tup v)) : ∃ acc, H D = some (.lst acc) ∧ acc.length = l.length ∧ TupL H0 D (l ++ [v]) (upd H D (.lst (acc ++ [.ref t]))) := by
  obtain ⟨ts, h1, h2, h3⟩ := o.ts
  have tD : ∀ {t : Addr} {v : List V}, H t = some (.tup v) → t ≠ D := fun {t v} h z => by rw [z, h1] at h; cases h
  refine ⟨_, h1, by rw [List.length_map, h2], fun b u e => by rw [upd_ne (ne_of_none e o.nD)]; exact o.sm b u e, o.nD, ts ++ [t], by rw [upd_same]; simp, by rw [List.length_append, List.length_append, h2]; rfl, fun j s u e1 e2 => ?_⟩
  by_cases hj : j < ts.length
  · rw [List.getElem?_append_left hj] at e1
    rw [List.getElem?_append_left (by rw [← h2]; exact hj)] at e2
    have := h3 j s u e1 e2
    rw [upd_ne (tD this)]
    exact this
  · have hl := (List.getElem?_eq_some_iff.mp e1).1
    rw [List.length_append, List.length_singleton] at hl
    have ej : j = ts.length := by omega
    subst ej
    rw [List.getElem?_append_right (Nat.le_refl _), Nat.sub_self] at e1
    rw [h2, List.getElem?_append_right (Nat.le_refl _), Nat.sub_self] at e2
    cases e1
    cases e2
    rw [upd_ne (tD ht)]
    exact ht
/-! ### places -/
theorem cut_toV {xs : List V} {k : Nat} : cutV xs none (some (k : Int)) = xs.take k := by
  unfold cutV
  rw [HT.sIx_nat, HT.sIx_none, List.drop_zero, Nat.sub_zero]
  by_cases h : k ≤ xs.length
  · rw [Nat.min_eq_left h]
  · rw [Nat.min_eq_right (by omega), List.take_of_length_le (Nat.le_refl _), List.take_of_length_le (show xs.length ≤ k by omega)]
/-- what a table tells of its deeds -/
def toldV (d : Deed) : List V := [.int (d.1 : Nat), .str d.2.1, .bl d.2.2.2]
/-- where a hand stands -/
def atR (S : TSt) (h : Nat) : Nat × Nat × Nat :=
  let R := rowsT (textR S.signs ((hereR S).take ((hereR S).idxOf (S.spots.getD h 0))))
  (R.length - 1, (R.getLast?.getD []).length - 1, ((R.getLast?.getD []).getLast?.getD "").length)
theorem textR_len {signs : List Str} {marks : List Nat} (h1 : ∀ z ∈ signs, z.length ≤ 1) : (textR signs marks).length ≤ marks.length := by
  have e : (textR signs marks).length = ((marks.map fun m => signs.getD m "").map (·.length)).sum := by
    unfold textR
    rw [len_cl, cl_joinL]
    have : ∀ ys : List Str, (TL.joinL (cl "") (ys.map cl)).length = (ys.map (·.length)).sum := by
      intro ys
      induction ys with
      | nil => rfl
      | cons y ys ih =>
        have e0 : cl ("" : Str) = [] := by decide +kernel
        rw [e0] at ih ⊢
        cases ys with
        | nil => simp [TL.joinL, len_cl]
        | cons z zs =>
          have e1 : ((y :: z :: zs).map (·.length)).sum = y.length + ((z :: zs).map (·.length)).sum := by rw [List.map_cons, List.sum_cons]
          rw [e1, ← ih]
          show ((cl y) ++ ([] ++ TL.joinL [] ((z :: zs).map cl))).length = _
          rw [List.nil_append, List.length_append, len_cl]
    exact this _
  rw [e]
  have hs := sum_ones (marks.map fun m => signs.getD m "") fun y hy => by
    obtain ⟨m, hmm, rfl⟩ := List.mem_map.mp hy
    rw [List.getD_eq_getElem?_getD]
    cases q : signs[m]? with
    | none => exact Nat.zero_le _
    | some z => exact h1 z (List.mem_of_getElem? q)
  rw [List.length_map] at hs
  exact hs
theorem rowsAt_last {ps : List Addr} {rows : List (List Str)} {H : Hp} (r : RowsAt ps rows H) (h : 1 ≤ rows.length) : ∃ q, atI (ps.map V.ref) (-1) = some (.ref q) ∧ H q = some (.tup (sV (rows.getLast?.getD []))) := by
  have hl := r.len
  have l1 : ps.length - 1 < ps.length := by omega
  refine ⟨ps[ps.length - 1], ?_, ?_⟩
  · have e : ixN (ps.map V.ref).length (-1) = some (ps.length - 1) := by
      unfold ixN
      rw [List.length_map]
      simp
      omega
    unfold atI
    rw [e]
    show (ps.map V.ref)[ps.length - 1]? = _
    rw [List.getElem?_map, List.getElem?_eq_getElem l1]
    rfl
  · refine r.row (ps.length - 1) _ _ (List.getElem?_eq_getElem l1) ?_
    rw [List.getLast?_eq_getElem?, hl, List.getElem?_eq_getElem (by omega)]
    rfl
theorem atZ_lastT {xs : List Str} (h : 1 ≤ xs.length) : atI (sV xs) (-1) = some (.str (xs.getLast?.getD "")) := by
  have e : ixN (sV xs).length (-1) = some (xs.length - 1) := by
    unfold ixN sV
    rw [List.length_map]
    simp
    omega
  unfold atI
  rw [e]
  show (sV xs)[xs.length - 1]? = _
  unfold sV
  rw [List.getElem?_map, List.getLast?_eq_getElem?, List.getElem?_eq_getElem (by omega)]
  rfl
section
variable {P : Program} {w : World} {K : PySem.W.Frag} {mg : Str → Option Value} {base : Heap} {cs : List (Addr × Addr)} {B : Addr}
/-! ### page -/
def spTPage (cs : List (Addr × Addr)) (B : Addr) : Sp := fun vs H Q _ => ∃ (tb : Addr) (a : TA) (S : TSt), vs = [.ref tb] ∧ Tabs cs H ∧ TabD B H tb a S ∧ TOk S ∧
  ∀ (r : Addr) (ps : List Addr) (H' : Hp), Ex cs H H' → H r = none → H' r = some (.lst (ps.map V.ref)) → RowsAt ps (rowsT (textR S.signs (hereR S))) H' → Q (.ref r) H'
theorem sc_tpage : FnScope ["self"] ["self"] (defScope (mth nTable 8)) := ⟨rfl, rfl, rfl, by decide +kernel, rfl, by decide +kernel, by decide +kernel⟩
theorem ok_tpage {f g1 g2 g3 : Addr} {fd fd1 fd2 fd3 : FuncData} (X : TabC K B) (F : Fun K "page" "Table.page" (mth nTable 8) f fd)
    (M1 : Meth K B "present" g1) (G1 : FnOk P w K mg base CX0 2 g1 fd1 ["self"] (spPresent B)) (b1 : Binds K fd1 ["self"] [])
    (G2 : FnOk P w K mg base CX0 1 g2 fd2 ["signs", "marks"] (spTextOf K)) (k2 : PySem.W.keepIn K (.ref g2) = true) (b2 : Binds K fd2 ["signs", "marks"] []) (m2 : mg "text_of" = some (.ref g2))
    (G3 : FnOk P w K mg base CX0 1 g3 fd3 ["text"] (spRowsOf cs)) (k3 : PySem.W.keepIn K (.ref g3) = true) (b3 : Binds K fd3 ["text"] []) (m3 : mg "rows_of" = some (.ref g3)) : FnOk P w K mg base CX0 3 f fd ["self"] (spTPage cs B) := by
  refine F.ok sc_tpage (fun vs H Q E h => ?_) (fun cdv A outer s H vs Q E hr h => ?_)
  · obtain ⟨tb, a, S, rfl, _⟩ := h
    rfl
  · obtain ⟨tb, a, S, rfl, hT, hD, hO, k⟩ := h
    have r1 : Room 1 _ := hr.mono (by decide)
    refine ⟨_, pss_one (ps_ret (pe_call G3 r1 (by rfl) m3 k3 b3 .nil pass0 (pa_cons (pe_call G2 r1 (by rfl) m2 k2 b2 .nil pass0 (pa_cons (pe_fld (pv 0) rfl) (pa_cons (pe_meth0 (pv 0) X.cls M1 G1 hr b1 .nil pass0) pa_nil))) pa_nil))), ?_⟩
    refine ⟨_, rfl, tb, B, a.dx, _, _, rfl, hD.ob, X.cls, X.nSigns, rfl, _, rfl, tb, a.dx, _, rfl, hD.ob, rfl, tb, a, S, rfl, hD, hO, fun D nD => ?_⟩
    have x1 := same_new (o := .lst (nV (hereR S))) nD
    have hl := hereR_len S
    have ho := hO.ol
    refine ⟨a.sg, D, S.signs, hereR S, rfl, SqL.of (x1 _ _ hD.sg), SqL.of upd_same, hereR_lt hO, by omega, hO.one, fun H2 x2 => ?_⟩
    have e2 := same_ex (same_trans x1 x2) hT
    have tl := textR_len (marks := hereR S) hO.one
    exact ⟨_, rfl, e2.tab, by omega, fun r ps H3 x3 nr hr3 hps => k r ps H3 (e2.trans x3) (e2.old _ nr) hr3 hps⟩
/-! ### at -/
def spTAt (cs : List (Addr × Addr)) (B : Addr) : Sp := fun vs H Q _ => ∃ (tb : Addr) (h : Nat) (a : TA) (S : TSt), vs = [.ref tb, .int (h : Nat)] ∧ Tabs cs H ∧ TabD B H tb a S ∧ TOk S ∧ h < S.spots.length ∧
  ∀ (t : Addr) (H' : Hp), Ex cs H H' → H' t = some (.tup [.int ((atR S h).1 : Nat), .int ((atR S h).2.1 : Nat), .int ((atR S h).2.2 : Nat)]) → Q (.ref t) H'
abbrev nmAt : List Str := ["self", "hand", "present", "rows"]
theorem sc_tat : FnScope nmAt ["self", "hand"] (defScope (mth nTable 7)) := ⟨rfl, rfl, rfl, by decide +kernel, rfl, by decide +kernel, by decide +kernel⟩
theorem rowsT_1 (z : Str) : 1 ≤ (rowsT z).length ∧ ∀ r ∈ rowsT z, 1 ≤ r.length := by
  have ne : ∀ (z y : Str), cl y ≠ [] → Builtin.Str.strKind y = 1 → 1 ≤ (Txt.split z y).length := fun z y h0 h1 => by
    have e := split_clL z y h0 h1
    have : (TL.spl (cl y) 0 [] (cl z)).length = (Txt.split z y).length := by rw [← e, List.length_map]
    rw [← this]
    have g : ∀ (l acc : List Nat) (k : Nat), 1 ≤ (TL.spl (cl y) k acc l).length := by
      intro l
      induction l with
      | nil => intro acc k; cases k <;> simp [TL.spl]
      | cons c r ih =>
        intro acc k
        cases k with
        | zero =>
          unfold TL.spl
          split
          · simp
          · exact ih _ _
        | succ k => unfold TL.spl; exact ih _ _
    exact g _ _ _
  refine ⟨?_, fun r hr => ?_⟩
  · unfold rowsT
    rw [List.length_map]
    exact ne z lineS (by rw [cl_lineS]; decide) kind_line
  · unfold rowsT at hr
    obtain ⟨l, _, rfl⟩ := List.mem_map.mp hr
    exact ne l tabS (by rw [cl_tabS]; decide) kind_tab
theorem rowsT_piece {z : Str} {r : List Str} {x : Str} (hr : r ∈ rowsT z) (hx : x ∈ r) : x.length ≤ z.length := by
  unfold rowsT at hr
  obtain ⟨l, hl, rfl⟩ := List.mem_map.mp hr
  have h1 := split_pieceL (by rw [cl_lineS]; decide) kind_line hl
  have h2 := split_pieceL (by rw [cl_tabS]; decide) kind_tab hx
  omega
theorem ok_tat {f g0 g1 g2 g3 : Addr} {fd fd0 fd1 fd2 fd3 : FuncData} (T : Txt mg) (X : TabC K B) (F : Fun K "at" "Table.at" (mth nTable 7) f fd)
    (M0 : Meth K B "check_hand" g0) (G0 : FnOk P w K mg base CX0 2 g0 fd0 ["self", "hand"] (spHand B)) (b0 : Binds K fd0 ["self", "hand"] [])
    (M1 : Meth K B "present" g1) (G1 : FnOk P w K mg base CX0 2 g1 fd1 ["self"] (spPresent B)) (b1 : Binds K fd1 ["self"] [])
    (G2 : FnOk P w K mg base CX0 1 g2 fd2 ["signs", "marks"] (spTextOf K)) (k2 : PySem.W.keepIn K (.ref g2) = true) (b2 : Binds K fd2 ["signs", "marks"] []) (m2 : mg "text_of" = some (.ref g2))
    (G3 : FnOk P w K mg base CX0 1 g3 fd3 ["text"] (spRowsOf cs)) (k3 : PySem.W.keepIn K (.ref g3) = true) (b3 : Binds K fd3 ["text"] []) (m3 : mg "rows_of" = some (.ref g3)) : FnOk P w K mg base CX0 3 f fd ["self", "hand"] (spTAt cs B) := by
  refine F.ok sc_tat (fun vs H Q E h => ?_) (fun cdv A outer s H vs Q E hr h => ?_)
  · obtain ⟨tb, h, a, S, rfl, _⟩ := h
    rfl
  · obtain ⟨tb, h, a, S, rfl, hT, hD, hO, hh, k⟩ := h
    have nd := sc_tat.nd
    have r1 : Room 1 _ := hr.mono (by decide)
    refine ⟨_, pss_cons (ps_expr (pe_meth (pv 0) X.cls M0 G0 hr b0 .nil pass0 (pa_cons (pv 1) pa_nil)))
      (pss_cons (ps_set (i := 2) nd rfl (.inl rfl) (pe_meth0 (pv 0) X.cls M1 G1 hr b1 .nil pass0))
      (pss_cons (ps_set (i := 3) nd rfl (.inl rfl) (pe_call G3 r1 (by rfl) m3 k3 b3 .nil pass0 (pa_cons (pe_call G2 r1 (by rfl) m2 k2 b2 .nil pass0 (pa_cons (pe_fld (pv 0) rfl)
        (pa_cons (pe_slice sl_list (pv 2) po_none (po_some (pe_bm PySem.F.plainAttrs_list PySem.F.slot_list_index PySem.F.type_list_index mt_index (pv 2) (pa_cons (pe_ix ix_list (pe_fld (pv 0) rfl) (pv 1) (fun _ _ => rfl)) pa_nil)))) pa_nil))) pa_nil)))
      (pss_one (ps_ret (pe_tup (pa_cons (pe_op op_sub (pe_callB call_len_seq (by rfl) T.len PySem.boot_len (pa_cons (pv 3) pa_nil)) pe_int)
        (pa_cons (pe_op op_sub (pe_callB call_len_seq (by rfl) T.len PySem.boot_len (pa_cons (pe_ix ix_list (pv 3) (pe_un un_neg pe_int) (fun _ _ => rfl)) pa_nil)) pe_int)
        (pa_cons (pe_callB call_len_str (by rfl) T.len PySem.boot_len (pa_cons (pe_ix ix_tup (pe_ix ix_list (pv 3) (pe_un un_neg pe_int) (fun _ _ => rfl)) (pe_un un_neg pe_int) (fun _ _ => rfl)) pa_nil)) pa_nil)))))))), ?_⟩
    refine ⟨_, rfl, tb, a.dx, _, rfl, hD.ob, rfl, _, rfl, tb, h, a, S, rfl, hD, hh, _, rfl, tb, a.dx, _, rfl, hD.ob, rfl, tb, a, S, rfl, hD, hO, fun D nD => ?_⟩
    have x1 := same_new (o := .lst (nV (hereR S))) nD
    have hD1 := hD.same x1
    have h1 : upd H D (.lst (nV (hereR S))) D = some (.lst (nV (hereR S))) := upd_same
    generalize upd H D (.lst (nV (hereR S))) = H1 at x1 hD1 h1 ⊢
    have hl := hereR_len S
    have ho := hO.ol
    have hs := getD_spot hh
    obtain ⟨g1', g2', g3'⟩ := idx_nat (hO.sp _ (List.mem_of_getElem? hs))
    refine ⟨_, rfl, tb, B, a.dx, _, _, rfl, hD1.ob, X.cls, X.nSigns, rfl, _, rfl, _, rfl, .inl ⟨rfl, _, SqL.of h1⟩, _, rfl, tb, B, a.dx, _, _, rfl, hD1.ob, X.cls, X.nSpots, rfl, _, rfl, a.sp, _, _, _, rfl, rfl, SqL.of hD1.sp, atI_nat (nV_get hs), D, nV (hereR S), .int (S.spots.getD h 0 : Nat), (hereR S).idxOf (S.spots.getD h 0), .int (S.spots.getD h 0 : Nat), rfl, rfl, SqL.of h1, rfl, ints_flat _, nV_get g1', by simp [eqV], ints_no g3', ?_⟩
    refine ⟨_, rfl, D, _, rfl, SqL.of h1, fun p np => ?_⟩
    rw [cut_toV]
    have e1 : (nV (hereR S)).take ((hereR S).idxOf (S.spots.getD h 0)) = nV ((hereR S).take ((hereR S).idxOf (S.spots.getD h 0))) := by unfold nV; rw [List.map_take]
    rw [e1]
    have hR : atR S h = ((rowsT (textR S.signs ((hereR S).take ((hereR S).idxOf (S.spots.getD h 0))))).length - 1, ((rowsT (textR S.signs ((hereR S).take ((hereR S).idxOf (S.spots.getD h 0))))).getLast?.getD []).length - 1, (((rowsT (textR S.signs ((hereR S).take ((hereR S).idxOf (S.spots.getD h 0))))).getLast?.getD []).getLast?.getD "").length) := rfl
    have lm : ∀ m ∈ (hereR S).take ((hereR S).idxOf (S.spots.getD h 0)), m < S.signs.length := fun m hm => hereR_lt hO m (List.mem_of_mem_take hm)
    have ll : ((hereR S).take ((hereR S).idxOf (S.spots.getD h 0))).length ≤ 9000 := by rw [List.length_take]; omega
    generalize (hereR S).take ((hereR S).idxOf (S.spots.getD h 0)) = ms at hR lm ll ⊢
    have x2 := same_new (o := .lst (nV ms)) np
    refine ⟨a.sg, p, S.signs, ms, rfl, SqL.of (x2 _ _ hD1.sg), SqL.of upd_same, lm, by omega, hO.one, fun H3 x3 => ?_⟩
    have e3 := same_ex (same_trans x1 (same_trans x2 x3)) hT
    have tl := textR_len (marks := ms) hO.one
    refine ⟨_, rfl, e3.tab, by omega, fun r ps H4 x4 nr hr4 hps => ?_⟩
    obtain ⟨r1', r2'⟩ := rowsT_1 (textR S.signs ms)
    obtain ⟨q, hq1, hq2⟩ := rowsAt_last hps r1'
    have hlast : (rowsT (textR S.signs ms)).getLast?.getD [] ∈ rowsT (textR S.signs ms) := by
      cases e : (rowsT (textR S.signs ms)).getLast? with
      | none => rw [List.getLast?_eq_none_iff.mp e] at r1'; simp at r1'
      | some x => exact List.mem_of_getLast? e
    have r3' := r2' _ hlast
    have r4' : ((((rowsT (textR S.signs ms)).getLast?.getD [])).getLast?.getD "").length ≤ 9000 := by
      cases e : ((rowsT (textR S.signs ms)).getLast?.getD []).getLast? with
      | none => exact Nat.zero_le _
      | some x =>
        have := rowsT_piece hlast (List.mem_of_getLast? e)
        show x.length ≤ 9000
        omega
    have hk := k
    rw [hR] at hk
    generalize rowsT (textR S.signs ms) = R at hps r1' hk hq2 r3' r4'
    have szl : (9000 : Nat) < sizeLine := by decide
    have pl := hps.len
    refine ⟨_, rfl, r, _, rfl, .inl (SqL.of hr4), _, _, rfl, rfl, _, rfl, 1, rfl, r, _, _, _, rfl, rfl, SqL.of hr4, hq1, q, _, rfl, .inr (SqT.of hq2), _, _, rfl, rfl, _, rfl, 1, rfl, r, _, _, _, rfl, rfl, SqL.of hr4, hq1, 1, rfl, q, _, _, _, rfl, rfl, SqT.of hq2, atZ_lastT r3', _, rfl, ?_, by show 3 ≤ sizeLine; decide, fun t nt => ?_⟩
    · omega
    · refine hk t _ (e3.trans (x4.trans (Ex.laid x4.tab nt))) ?_
      rw [upd_same]
      have f1 : (((ps.map V.ref).length : Nat) : Int) - 1 = ((R.length - 1 : Nat) : Int) := by rw [List.length_map]; omega
      have f2 : (((sV (R.getLast?.getD [])).length : Nat) : Int) - 1 = (((R.getLast?.getD []).length - 1 : Nat) : Int) := by unfold sV; rw [List.length_map]; omega
      dsimp only
      rw [f1, f2]
/-! ### told -/
def spTTold (B : Addr) : Sp := fun vs H Q _ => ∃ (tb : Addr) (a : TA) (S : TSt), vs = [.ref tb] ∧ TabD B H tb a S ∧ TOk S ∧ ∀ (D : Addr) (H' : Hp), TupL H D (S.deeds.map toldV) H' → Q (.ref D) H'
abbrev nmTold2 : List Str := ["self", "hand", "sign", "mark", "stands"]
theorem sc_ttold : FnScope nmTold2 ["self"] (defScope (mth nTable 10)) := ⟨rfl, rfl, rfl, by decide +kernel, rfl, by decide +kernel, by decide +kernel⟩
theorem ok_ttold {f : Addr} {fd : FuncData} (X : TabC K B) (F : Fun K "told" "Table.told" (mth nTable 10) f fd) : FnOk P w K mg base CX0 1 f fd ["self"] (spTTold B) := by
  refine F.ok sc_ttold (fun vs H Q E h => ?_) (fun cdv A outer s H vs Q E hr h => ?_)
  · obtain ⟨tb, a, S, rfl, _⟩ := h
    rfl
  · obtain ⟨tb, a, S, rfl, hD, hO, k⟩ := h
    have nd := sc_ttold.nd
    have szl : (9000 : Nat) < sizeLine := by decide
    refine ⟨_, pss_one (ps_ret (pe_lc (own := [("hand", 1), ("sign", 2), ("mark", 3), ("stands", 4)]) (g := gTup K 4 (gCons (gName 1) (gCons (gName 2) (gCons (gName 3) (gCons (gName 4) gNil))))) (tt := tYes) rfl nd (pi_list (pe_fld (pv 0) rfl)) (blkOk_by (own := [("hand", 1), ("sign", 2), ("mark", 3), ("stands", 4)]) (N := nmTold2) (sc := defScope (mth nTable 10)) (by decide +kernel))
      (fun _ _ _ _ _ => pg_tup rfl (pgs_cons (pg_name (i := 1) nd rfl (.inl rfl) (.inr rfl)) (pgs_cons (pg_name (i := 2) nd rfl (.inl rfl) (.inr rfl)) (pgs_cons (pg_name (i := 3) nd rfl (.inl rfl) (.inr rfl)) (pgs_cons (pg_name (i := 4) nd rfl (.inl rfl) (.inr rfl)) pgs_nil))))) (fun _ _ _ _ _ => pts_nil)
      (fun _ _ _ _ _ => pe_tup (pa_cons (pv 1) (pa_cons (pv 2) (pa_cons (pv 4) pa_nil)))))), ?_⟩
    refine ⟨_, rfl, tb, B, a.dx, _, _, rfl, hD.ob, X.cls, X.nDeeds, rfl, a.dl, rfl, ⟨_, SqL.of hD.de.lst⟩, fun D nD => lc_list (xs := a.da.map V.ref) (fun i H' => TupL H D ((S.deeds.take i).map toldV) H') (TupL.start nD) (fun i H' _ o => SqL.of (o.sm _ _ hD.de.lst)) ?_ ?_⟩
    · rintro i x H1 hx o
      obtain ⟨t, ht, rfl⟩ := get_map hx
      obtain ⟨d, hd⟩ := getP (xs := S.deeds) (i := i) (by rw [← hD.de.len]; exact (List.getElem?_eq_some_iff.mp ht).1)
      have h3 := o.sm _ _ (hD.de.at_ i t d ht hd)
      have li := (List.getElem?_eq_some_iff.mp hd).1
      have dn := hO.dn
      refine ⟨t, _, rfl, .inl (.inl h3), rfl, _, _, rfl, _, _, rfl, _, _, rfl, _, _, rfl, rfl, rfl, _, rfl, _, rfl, _, rfl, by show 3 ≤ sizeLine; decide, fun p np => ?_⟩
      have o4 := o.grow (same_new (o := .tup [.int (d.1 : Nat), .str d.2.1, .bl d.2.2.2]) np)
      obtain ⟨acc, q1, q2, q3⟩ := o4.more (t := p) (v := toldV d) upd_same
      refine ⟨acc, q1, by rw [q2, List.length_map, List.length_take]; omega, ?_⟩
      rw [List.take_add_one, hd, Option.toList_some, List.map_append]
      exact q3
    · rintro H1 o
      have e : S.deeds.take (a.da.map V.ref).length = S.deeds := List.take_of_length_le (by rw [List.length_map, hD.de.len]; exact Nat.le_refl _)
      rw [e] at o
      exact k D H1 o
end
end TG


namespace TG
open PySem PySem.Spec PyProof.Rows L2 Gx
/-! ### what is told of a def, told otherwise -/
section
variable {P : Program} {w : World} {K : PySem.W.Frag} {mg : Str → Option Value} {base : Heap} {k : Nat} {f : Addr} {fd : FuncData} {ps : List Str} {sp sp1 sp2 : Sp}
/-- a def that may raise, where it doesn't -/
def noE (sp : Sp) : Sp := fun vs H Q _ => sp vs H Q fun _ _ _ => False
theorem fn0_of (F : FnOk P w K mg base (L2.CX P w) k f fd ps sp) : FnOk P w K mg base CX0 k f fd ps (noE sp) := by
  refine ⟨fun vs H Q E h => F.len vs H Q _ h, fun A outer s H args us vs Q E hr e0 b r h => ?_⟩
  refine codeAny_mono (F.run A outer s H args us vs Q (fun _ _ _ => False) hr e0 b r h) fun r' s' hq => ?_
  cases r' with
  | error er =>
    obtain ⟨a, B, H', cls, d, _, _, _, _, _, _, _, z⟩ := hq
    exact z.elim
  | ok fl =>
    cases fl with
    | ret u => exact hq
    | next => exact hq
    | brk => exact False.elim hq
    | cont => exact False.elim hq
def orSp (sp1 sp2 : Sp) : Sp := fun vs H Q E => sp1 vs H Q E ∨ sp2 vs H Q E
theorem fn_or {CX : L2.CXT} (F1 : FnOk P w K mg base CX k f fd ps sp1) (F2 : FnOk P w K mg base CX k f fd ps sp2) : FnOk P w K mg base CX k f fd ps (orSp sp1 sp2) := by
  refine ⟨fun vs H Q E h => h.elim (F1.len vs H Q E) (F2.len vs H Q E), fun A outer s H args us vs Q E hr e0 b r h => ?_⟩
  rcases h with h | h
  · exact F1.run A outer s H args us vs Q E hr e0 b r h
  · exact F2.run A outer s H args us vs Q E hr e0 b r h
end
end TG


namespace TG
open PySem PySem.Spec PyProof.Rows L2 NdefX GenW Gx Lv
/-! ### methods that may raise -/
def tMethS (C : Addr) (m : Str) (sp : Sp) (E : L2.St → XK) (ta : TE) (t : L2.TA) : TE := fun σ H Q => ta σ H fun x H1 => ∃ a dx fs, x = .ref a ∧ H1 a = some (.ins C dx fs) ∧ fs.lookup m = none ∧ t σ H1 fun vs H2 => sp (.ref a :: vs) H2 Q (E σ)
section
variable {X : Cx} {CX : CXT} {k : Nat} {f C : Addr} {fd : FuncData} {ps : List Str} {sp : Sp} {E : L2.St → XK} {x m : Str} {p pos apos : Pos} {e o : Expr} {es : List Expr} {ta : TE} {t : L2.TA}
theorem pe_methS {pl : Sem Bool} (he : PE X o ta) (c : Cls X.K C) (hm : Meth X.K C m f) (F : FnOk X.prog X.w X.K X.mg X.base CX k f fd ps sp) (hr : Room k X.A) (hb : Binds X.K fd ps []) (hx : ∀ σ, PassesAt CX X σ (E σ)) (ha : PA X (e :: es) t)
    (hst : starEach (e :: es) X.env = (false, eval e X.env) :: starEach es X.env := by rfl) (hpl : (backTo pos (starEach es X.env)).any (·.1) = false := by rfl)
    (ht : eval (.Call (.Attribute o m apos) (e :: es) [] pos) X.env = (do
      let ov ← eval o X.env
      standAt apos.atName
      let (f, first) ← holding [ov] (getMethod ov m pl)
      callWith pos f first (backTo pos (starEach (e :: es) X.env)) (backToKw pos (keywordEach [] X.env))) := by rfl) :
    PE X (.Call (.Attribute o m apos) (e :: es) [] pos) (tMethS C m sp E ta t) := by
  refine ⟨fun pins s σ H Q I h => ?_⟩
  refine PySem.W.methodCall_KW (pl := pl) (thn (he.run pins s σ H _ I h) fun u s1 ⟨x, H1, I1, rx, a, dx, fs, ex, ea, l, q⟩ => ?_) ht
  subst ex
  obtain rfl : u = Value.ref a := rx
  refine getmeth_ok I1 ea c hm l ?_
  refine PySem.W.callWith_K (first := [.ref a]) (h₀ := X.base) I.ok.mod.kin hm.kp (thn (ha.run pos pins s1 σ H1 _ I1 q) fun us s2 ⟨vs, H2, I2, r, q2⟩ => ⟨I2.kIn, ?_⟩) hst hpl
  exact run_fnS (us := .ref a :: us) (vs := .ref a :: vs) F hr hb (hx σ) I2 (.cons rfl r) q2
end
end TG


namespace TG
open PySem PySem.Spec PyProof.Rows L2 Gx
structure ErrC (K : PySem.W.Frag) (mg : Str → Option Value) (x : Str) (C G : Addr) : Prop where
  mg_ : mg x = some (.ref C)
  exc : PySem.W.excIn K C [.type "ValueError", .type "Exception", .type "BaseException", .type "object"] "ValueError.__new__" = true
  kp : PySem.W.keepIn K (.ref C) = true
  sub : PySem.W.subIn K (.ref C) (.type "BaseException") = some true
  ty : PySem.W.typeIn K (.ref C) = some (.type "type")
  up : PySem.W.exmOne K (.ref C) (.ref G) = some true
/-! ### settle -/
def settleR (S : TSt) (signs : List Str) (order : List Nat) (deeds : List Deed) : TSt :=
  { S with signs := signs, order := order, deeds := deeds, there := thereR signs.length deeds, spots := S.spots.map (firstR order (thereR signs.length deeds)) }
structure SetOk (S : TSt) (signs : List Str) (order : List Nat) (deeds : List Deed) : Prop where
  one : ∀ z ∈ signs, z.length ≤ 1
  many : signs.length ≤ 9000
  ord : ∀ m ∈ order, m < signs.length
  ol : order.length ≤ 9000
  dm : ∀ d ∈ deeds, d.2.2.1 < signs.length
  dn : deeds.length ≤ 9000
  sp : ∀ s ∈ S.spots, s ∈ order ∧ ∃ m ∈ order.drop (order.idxOf s), (thereR signs.length deeds).getD m false = true
  pg : PgOk (rowsT (textR signs (thoseR order (thereR signs.length deeds))))
  h4 : S.spots.length ≤ 4
/-- what is there, as a page -/
abbrev pageR (signs : List Str) (order : List Nat) (deeds : List Deed) : List (List Str) := rowsT (textR signs (thoseR order (thereR signs.length deeds)))
structure SetPre (S : TSt) (signs : List Str) (order : List Nat) (deeds : List Deed) : Prop where
  one : ∀ z ∈ signs, z.length ≤ 1
  many : signs.length ≤ 9000
  ord : ∀ m ∈ order, m < signs.length
  ol : order.length ≤ 9000
  dm : ∀ d ∈ deeds, d.2.2.1 < signs.length
  dn : deeds.length ≤ 9000
  sp : ∀ s ∈ S.spots, s ∈ order ∧ ∃ m ∈ order.drop (order.idxOf s), (thereR signs.length deeds).getD m false = true
  sg : TxtSg (textR signs (thoseR order (thereR signs.length deeds)))
  h4 : S.spots.length ≤ 4
theorem firstR_mem {order : List Nat} {there : List Bool} {s : Nat} (h : ∃ m ∈ order.drop (order.idxOf s), there.getD m false = true) : firstR order there s ∈ thoseR order there := by
  obtain ⟨m, hm, ht⟩ := h
  unfold firstR
  cases e : (order.drop (order.idxOf s)).find? (fun m => there.getD m false) with
  | none => exact absurd ht (by have := List.find?_eq_none.mp e m hm; simpa using this)
  | some x =>
    exact List.mem_filter.mpr ⟨List.mem_of_mem_drop (List.mem_of_find?_eq_some e), List.find?_some (p := fun m => there.getD m false) e⟩
theorem SetOk.tok {S : TSt} {signs : List Str} {order : List Nat} {deeds : List Deed} (h : SetOk S signs order deeds) (o : TOk S) (hl : S.deeds.length ≤ deeds.length) : TOk (settleR S signs order deeds) :=
  ⟨h.one, h.many, h.ord, h.ol, thereR_len _ _, h.dm, h.dn, fun s hs => by
    obtain ⟨s0, h0, rfl⟩ := List.mem_map.mp hs
    exact firstR_mem (h.sp s0 h0).2, by show (S.spots.map _).length = _; rw [List.length_map]; exact o.hn, by show (S.spots.map _).length ≤ 4; rw [List.length_map]; exact o.h4, fun l hl2 => ⟨(o.un l hl2).1, fun n hn => Nat.lt_of_lt_of_le ((o.un l hl2).2 n hn) hl⟩⟩
section
variable {P : Program} {w : World} {K : PySem.W.Frag} {mg : Str → Option Value} {base : Heap} {cs : List (Addr × Addr)} {B : Addr}
abbrev setA (a : TA) (sg od th dl sp : Addr) (da : List Addr) : TA := { a with sg := sg, od := od, th := th, dl := dl, sp := sp, da := da }
theorem fs4 (a : TA) (sg od th dl : Addr) : putF "there" (.ref th) (putF "deeds" (.ref dl) (putF "order" (.ref od) (putF "signs" (.ref sg) a.fs))) = TA.fs { a with sg := sg, od := od, dl := dl, th := th } := by
  simp only [TA.fs, putF]
  rfl
theorem fs5 (a : TA) (sp : Addr) : putF "spots" (.ref sp) a.fs = TA.fs { a with sp := sp } := by
  simp only [TA.fs, putF]
  rfl
def spSettle (cs : List (Addr × Addr)) (B C : Addr) : Sp := fun vs H Q E => ∃ (tb sg od dl : Addr) (a : TA) (S : TSt) (signs : List Str) (order : List Nat) (deeds : List Deed) (da : List Addr), vs = [.ref tb, .ref sg, .ref od, .ref dl] ∧ Tabs cs H ∧ TabD B H tb a S ∧
  H sg = some (.lst (sV signs)) ∧ H od = some (.lst (nV order)) ∧ DeedsAt H dl da deeds ∧ (∀ c ∈ a.ud :: a.ua, c ≠ sg ∧ c ≠ od ∧ c ≠ dl) ∧ SetPre S signs order deeds ∧
  (PgOk (pageR signs order deeds) →
  ∀ (th sp : Addr) (H' : Hp), H th = none → H sp = none → (∀ c o, H c = some o → NT cs c o → c ≠ tb → H' c = some o) → Tabs cs H' → (∀ b, H' b = none → H b = none) → TabD B H' tb (setA a sg od th dl sp da) (settleR S signs order deeds) → Q .non H') ∧
  (¬ PgOk (pageR signs order deeds) → ∀ H', Ex cs H H' → E (.ref C) none H')
abbrev nmSet : List Str := ["self", "signs", "order", "deeds", "there", "rows", "spot"]
theorem sc_settle : FnScope nmSet ["self", "signs", "order", "deeds"] (defScope (mth nTable 16)) := ⟨rfl, rfl, rfl, by decide +kernel, rfl, by decide +kernel, by decide +kernel⟩
theorem pageAt_of {r : Addr} {ps : List Addr} {rows : List (List Str)} {H : Hp} (h : H r = some (.lst (ps.map V.ref))) (p : RowsAt ps rows H) : PageAt K H r ps rows := ⟨SqL.of h, p.len, fun i q z h1 h2 => SqT.of (p.row i q z h1 h2)⟩
theorem ok_settle {C G : Addr} {f g1 g2 g3 g4 g5 g6 : Addr} {fd fd1 fd2 fd3 fd4 fd5 fd6 : FuncData} (T : Txt mg) (Er : ErrC K mg "TooMuch" C G) (X : TabC K B) (F : Fun K "settle" "Table.settle" (mth nTable 16) f fd)
    (G1 : FnOk P w K mg base CX0 1 g1 fd1 ["many", "deeds"] (spMarks K)) (k1 : PySem.W.keepIn K (.ref g1) = true) (b1 : Binds K fd1 ["many", "deeds"] []) (m1 : mg "marks_there" = some (.ref g1))
    (G2 : FnOk P w K mg base CX0 1 g2 fd2 ["order", "there"] (spThose K)) (k2 : PySem.W.keepIn K (.ref g2) = true) (b2 : Binds K fd2 ["order", "there"] []) (m2 : mg "those_there" = some (.ref g2))
    (G3 : FnOk P w K mg base CX0 1 g3 fd3 ["signs", "marks"] (spTextOf K)) (k3 : PySem.W.keepIn K (.ref g3) = true) (b3 : Binds K fd3 ["signs", "marks"] []) (m3 : mg "text_of" = some (.ref g3))
    (G4 : FnOk P w K mg base CX0 1 g4 fd4 ["text"] (spRowsOf cs)) (k4 : PySem.W.keepIn K (.ref g4) = true) (b4 : Binds K fd4 ["text"] []) (m4 : mg "rows_of" = some (.ref g4))
    (G5 : FnOk P w K mg base CX0 10 g5 fd5 ["rows"] (orSp (spCheck K cs) (spMisB K cs))) (k5 : PySem.W.keepIn K (.ref g5) = true) (b5 : Binds K fd5 ["rows"] []) (m5 : mg "first_misfit" = some (.ref g5))
    (G6 : FnOk P w K mg base CX0 1 g6 fd6 ["order", "there", "spot"] (spFirst K)) (k6 : PySem.W.keepIn K (.ref g6) = true) (b6 : Binds K fd6 ["order", "there", "spot"] []) (m6 : mg "first_there" = some (.ref g6)) :
    FnOk P w K mg base (L2.CX P w) 11 f fd ["self", "signs", "order", "deeds"] (spSettle cs B C) := by
  refine F.okX sc_settle (fun vs H Q E h => ?_) (fun cdv A outer s H vs Q E hr h => ?_)
  · obtain ⟨tb, sg, od, dl, a, S, signs, order, deeds, da, rfl, _⟩ := h
    rfl
  · obtain ⟨tb, sg, od, dl, a, S, signs, order, deeds, da, rfl, hT, hD, hsg, hod, hdl, hn, hO, k, kx⟩ := h
    have nd := sc_settle.nd
    have r1 : Room 1 _ := hr.mono (by decide)
    refine ⟨_, pss_cons (ps_set (i := 4) nd rfl (.inr rfl) (pe_call G1 r1 (by rfl) m1 k1 b1 .nil pass0 (pa_cons (pe_callB call_len_seq (by rfl) T.len PySem.boot_len (pa_cons (pv 1) pa_nil)) (pa_cons (pv 3) pa_nil))))
      (pss_cons (ps_set (i := 5) nd rfl (.inl rfl) (pe_call G4 r1 (by rfl) m4 k4 b4 .nil pass0 (pa_cons (pe_call G3 r1 (by rfl) m3 k3 b3 .nil pass0 (pa_cons (pv 1) (pa_cons (pe_call G2 r1 (by rfl) m2 k2 b2 .nil pass0 (pa_cons (pv 2) (pa_cons (pv 4) pa_nil))) pa_nil))) pa_nil)))
      (pss_cons (ps_if (pt_cmpR op_notN (pe_call G5 hr (by rfl) m5 k5 b5 .nil pass0 (pa_cons (pv 5) pa_nil)) pe_non (nomark _)) (pss_one (ps_raise rfl (takes_of rfl rfl rfl rfl) (pmk_own PySem.F.excBase_ValueError Er.exc Er.mg_ Er.kp (raises_own Er.sub Er.ty) rfl))) pss_nil)
      (pss_cons (ps_fld (pv 0) (pv 1) rfl) (pss_cons (ps_fld (pv 0) (pv 2) rfl) (pss_cons (ps_fld (pv 0) (pv 3) rfl) (pss_cons (ps_fld (pv 0) (pv 4) rfl)
      (pss_one (ps_fld (pv 0) (pe_lc (own := [("spot", 6)]) (g := gName 6) (tt := tYes) rfl nd (pi_list (pe_fld (pv 0) rfl)) (blkOk_by (own := [("spot", 6)]) (N := nmSet) (sc := defScope (mth nTable 16)) (by decide +kernel))
        (fun _ _ _ _ _ => pg_name (i := 6) nd rfl (Or.inl rfl)) (fun _ _ _ _ _ => pts_nil) (fun _ _ _ _ _ => pe_call G6 r1 (by rfl) m6 k6 b6 .nil pass0 (pa_cons (pv 2) (pa_cons (pv 4) (pa_cons (pv 6) pa_nil))))) rfl)))))))), ?_⟩
    have hm := hO.many
    have hol := hO.ol
    refine ⟨_, rfl, sg, _, rfl, .inl (SqL.of hsg), _, rfl, signs.length, dl, da, deeds, by simp [sV], hdl, hO.dm, by omega, fun th H1 x1 nth hth => ?_⟩
    have tln := thereR_len signs.length deeds
    have e1 := same_ex x1 hT
    refine ⟨_, rfl, _, rfl, _, rfl, od, th, order, _, rfl, SqL.of (x1 _ _ hod), SqL.of hth, fun m hm => by rw [tln]; exact hO.ord m hm, by omega, fun D nD => ?_⟩
    have x2 := same_new (o := .lst (nV (thoseR order (thereR signs.length deeds)))) nD
    have hl : (thoseR order (thereR signs.length deeds)).length ≤ order.length := List.length_filter_le _ _
    refine ⟨sg, D, signs, _, rfl, SqL.of (x2 _ _ (x1 _ _ hsg)), SqL.of upd_same, fun m hm => hO.ord m (List.mem_filter.mp hm).1, by omega, hO.one, fun H2 x3 => ?_⟩
    have e2 := e1.trans (same_ex (same_trans x2 x3) e1.tab)
    have hth2 := x3 _ _ (x2 _ _ hth)
    have tl := textR_len (marks := thoseR order (thereR signs.length deeds)) hO.one
    refine ⟨_, rfl, e2.tab, by omega, fun r ps H3 x4 nr hr3 hps => ?_⟩
    by_cases pg : PgOk (pageR signs order deeds)
    rotate_left
    · obtain ⟨n, bn⟩ : ∃ n, BadAt (pageR signs order deeds) n := by
        rcases good_or (pageR signs order deeds) with g | g
        · exact absurd (good_pg hO.sg g) pg
        · exact g
      exact ⟨_, rfl, .inr ⟨r, ps, _, n, rfl, x4.tab, pageAt_of hr3 hps, fun q hq => ⟨(rowsT_pos _).2 q hq, fun x hx => (rowsT_sg hO.sg q hq x hx).1, fun x hx => Nat.le_trans (rowsT_sg hO.sg q hq x hx).2 (by omega)⟩, bn, fun H4 x5 => ⟨rfl, true, rfl, iteT (kx pg H4 (e2.trans (x4.trans x5)))⟩⟩⟩
    replace k := k pg
    refine ⟨_, rfl, .inl ⟨r, ps, _, rfl, x4.tab, pageAt_of hr3 hps, pg, fun H4 x5 => ?_⟩⟩
    have e4 := e2.trans (x4.trans x5)
    have hth4 := (x4.trans x5).lst hth2
    have hD4 := hD.gw e4.ext
    have hsg4 := e4.lst hsg
    have hod4 := e4.lst hod
    have hdl4 : DeedsAt H4 dl da deeds := ⟨e4.lst hdl.lst, hdl.len, fun i t d q1 q2 => e4.tup (hdl.at_ i t d q1 q2)⟩
    clear e1 e2 x1 x2 x3 x4 x5 hth hth2 nD
    refine ⟨rfl, false, rfl, iteF ?_⟩
    refine ⟨_, rfl, _, rfl, tb, B, a.dx, _, rfl, hD4.ob, X.cls, X.nSigns, by show 7 < 1000; decide, ?_⟩
    refine ⟨_, rfl, _, rfl, tb, B, a.dx, _, rfl, upd_same, X.cls, X.nOrder, by show 7 < 1000; decide, ?_⟩
    rw [upd_upd]
    refine ⟨_, rfl, _, rfl, tb, B, a.dx, _, rfl, upd_same, X.cls, X.nDeeds, by show 7 < 1000; decide, ?_⟩
    rw [upd_upd]
    refine ⟨_, rfl, _, rfl, tb, B, a.dx, _, rfl, upd_same, X.cls, X.nThere, by show 7 < 1000; decide, ?_⟩
    rw [upd_upd]
    rw [fs4]
    have nt : ∀ {c : Addr} {xs : List V}, H4 c = some (.lst xs) → c ≠ tb := fun h e => by rw [e, hD4.ob] at h; cases h
    have hb5 : upd H4 tb (.ins B a.dx { a with sg := sg, od := od, dl := dl, th := th }.fs) tb = some (.ins B a.dx { a with sg := sg, od := od, dl := dl, th := th }.fs) := upd_same
    have k5' : ∀ c o, H4 c = some o → c ≠ tb → upd H4 tb (.ins B a.dx { a with sg := sg, od := od, dl := dl, th := th }.fs) c = some o := fun c o h n => by rw [upd_ne n]; exact h
    have n5 : ∀ b, upd H4 tb (.ins B a.dx { a with sg := sg, od := od, dl := dl, th := th }.fs) b = none → H4 b = none := fun b hb => upd_old hD4.ob hb
    generalize upd H4 tb (.ins B a.dx { a with sg := sg, od := od, dl := dl, th := th }.fs) = H5 at hb5 k5' n5 ⊢
    refine ⟨_, rfl, tb, B, a.dx, _, _, rfl, hb5, X.cls, X.nSpots, rfl, a.sp, rfl, ⟨_, SqL.of (k5' _ _ hD4.sp (nt hD4.sp))⟩, fun L nL => ?_⟩
    have y5 : ∀ {o : HO}, Same H5 (upd H5 L o) := same_new nL
    refine lc_list (xs := nV S.spots) (fun i H' => H' = upd H5 L (.lst (nV ((S.spots.take i).map (firstR order (thereR signs.length deeds)))))) rfl (fun i H' _ x => by rw [x]; exact SqL.of (y5 _ _ (k5' _ _ hD4.sp (nt hD4.sp)))) ?_ ?_
    · rintro i x H' hx rfl
      obtain ⟨q, hq, rfl⟩ := get_map hx
      obtain ⟨q1, q2⟩ := hO.sp q (List.mem_of_getElem? hq)
      refine ⟨rfl, _, rfl, _, rfl, _, rfl, od, th, order, _, q, rfl, SqL.of (y5 _ _ (k5' _ _ hod4 (nt hod4))), SqL.of (y5 _ _ (k5' _ _ hth4 (nt hth4))), fun m hm => by rw [tln]; exact hO.ord m hm, by omega, q1, q2, _, upd_same, ?_, ?_⟩
      · have := hO.h4
        have szl : (9000 : Nat) < sizeLine := by decide
        rw [nV_len, List.length_map, List.length_take]
        omega
      · rw [upd_upd, List.take_add_one, hq]
        simp [nV]
    · rintro H' rfl
      have e : S.spots.take (nV S.spots).length = S.spots := List.take_of_length_le (by rw [nV_len]; exact Nat.le_refl _)
      rw [e]
      refine ⟨_, rfl, tb, B, a.dx, _, rfl, y5 _ _ hb5, X.cls, X.nSpots, by show 7 < 1000; decide, ?_⟩
      show Q .non (upd (upd H5 L (.lst (nV (S.spots.map (firstR order (thereR signs.length deeds)))))) tb (.ins B a.dx (setA a sg od th dl L da).fs))
      have nLt : L ≠ tb := fun e => by rw [e, hb5] at nL; cases nL
      have k6' : ∀ c o, H4 c = some o → c ≠ tb → upd (upd H5 L (.lst (nV (S.spots.map (firstR order (thereR signs.length deeds)))))) tb (.ins B a.dx (setA a sg od th dl L da).fs) c = some o := fun c o h n => by
        rw [upd_ne n]
        exact y5 _ _ (k5' c o h n)
      have nL4 := n5 L nL
      have ntT : ∀ {c : Addr} {xs : List V}, H4 c = some (.tup xs) → c ≠ tb := fun h e => by rw [e, hD4.ob] at h; cases h
      have nLc : ∀ {c : Addr} {o : HO}, H4 c = some o → L ≠ c := fun h e => by rw [← e, nL4] at h; cases h
      have nthc : ∀ {c : Addr} {o : HO}, H c = some o → c ≠ th := fun h e => by rw [e, nth] at h; cases h
      have nd0 := hD.nd
      rw [List.nodup_cons] at nd0
      have at4 : ∀ c ∈ a.ud :: a.ua, (∃ xs, H c = some (.lst xs)) ∧ ∃ o, H4 c = some o := fun c hc => by
        rcases List.mem_cons.mp hc with e | e
        · exact ⟨⟨_, e ▸ hD.ud⟩, _, e ▸ hD4.ud⟩
        · obtain ⟨i, hi⟩ := List.mem_iff_getElem?.mp e
          obtain ⟨l, hl⟩ := getP (xs := S.undone) (i := i) (by rw [← hD.ul]; exact (List.getElem?_eq_some_iff.mp hi).1)
          exact ⟨⟨_, hD.un i c l hi hl⟩, _, hD4.un i c l hi hl⟩
      refine k th L _ nth (e4.old _ nL4) (fun c o h n m => k6' c o (e4.any h n) m) ?_ (fun b hb => ?_) ?_
      · intro p hp
        obtain ⟨ps', h1, h2⟩ := e4.tab p hp
        exact ⟨ps', k6' _ _ h1 (fun z => by rw [z, hD4.ob] at h1; cases h1), h2⟩
      · refine e4.old b ?_
        cases e' : H4 b with
        | none => rfl
        | some u =>
          by_cases z : b = tb
          · rw [z, upd_same] at hb; cases hb
          · rw [k6' b u e' z] at hb; cases hb
      · refine ⟨upd_same, k6' _ _ hsg4 (nt hsg4), k6' _ _ hod4 (nt hod4), k6' _ _ hth4 (nt hth4), ⟨k6' _ _ hdl4.lst (nt hdl4.lst), hdl4.len, fun i t d q1 q2 => k6' _ _ (hdl4.at_ i t d q1 q2) (ntT (hdl4.at_ i t d q1 q2))⟩, by rw [upd_ne nLt, upd_same]; rfl, k6' _ _ hD4.ud (nt hD4.ud), hD4.ul, fun i u l q1 q2 => k6' _ _ (hD4.un i u l q1 q2) (nt (hD4.un i u l q1 q2)), List.nodup_cons.mpr ⟨fun h => ?_, nd0.2⟩, fun c hc => ?_⟩
        · obtain ⟨_, o, ho⟩ := at4 L h
          exact nLc ho rfl
        · rcases List.mem_cons.mp hc with e' | e'
          · rw [e']
            exact ⟨nLc hsg4, nLc hod4, nLc hth4, nLc hdl4.lst⟩
          · obtain ⟨h1, h2, h3⟩ := hn c e'
            obtain ⟨⟨xs, hx⟩, _⟩ := at4 c e'
            exact ⟨h1, h2, nthc hx, h3⟩
end
end TG


namespace TG
open PySem PySem.Spec PyProof.Rows L2 Gx
/-! ### undone -/
theorem nodup_inj {α : Type} {l : List α} (h : l.Nodup) {i j : Nat} {x : α} (h1 : l[i]? = some x) (h2 : l[j]? = some x) : i = j := by
  rw [List.nodup_iff_pairwise_ne, List.pairwise_iff_getElem] at h
  obtain ⟨a1, b1⟩ := List.getElem?_eq_some_iff.mp h1
  obtain ⟨a2, b2⟩ := List.getElem?_eq_some_iff.mp h2
  rcases Nat.lt_trichotomy i j with c | c | c
  · exact absurd (b1.trans b2.symm) (h i j a1 a2 c)
  · exact c
  · exact absurd (b2.trans b1.symm) (h j i a2 a1 c)
section
variable {B tb : Addr} {H H' : Hp} {a : TA} {S : TSt}
theorem TabD.nth (o : TabD B H tb a S) {h : Nat} (hh : h < S.undone.length) : ∃ u l, a.ua[h]? = some u ∧ S.undone[h]? = some l ∧ H u = some (.lst (nV l)) := by
  obtain ⟨u, hu⟩ := getP (xs := a.ua) (i := h) (by rw [o.ul]; exact hh)
  obtain ⟨l, hl⟩ := getP (xs := S.undone) (i := h) hh
  exact ⟨u, l, hu, hl, o.un h u l hu hl⟩
/-- one of the lists is written -/
theorem TabD.und (o : TabD B H tb a S) {h : Nat} {u : Addr} (hu : a.ua[h]? = some u) (l : List Nat) : TabD B (upd H u (.lst (nV l))) tb a { S with undone := S.undone.set h l } := by
  have mu : u ∈ a.ua := List.mem_of_getElem? hu
  have hlt := (List.getElem?_eq_some_iff.mp hu).1
  have nd := o.nd
  rw [List.nodup_cons, List.mem_cons, List.nodup_cons] at nd
  obtain ⟨d1, d2, d3, d4⟩ := o.dj u (by simp [mu])
  obtain ⟨l0, hl0⟩ := getP (xs := S.undone) (i := h) (by rw [← o.ul]; exact hlt)
  have h0 := o.un h u l0 hu hl0
  have f : ∀ {c : Addr} {x : HO}, c ≠ u → H c = some x → upd H u (.lst (nV l)) c = some x := fun n h => by rw [upd_ne n]; exact h
  have ft : ∀ {c : Addr} {us : List V}, H c = some (.tup us) → c ≠ u := fun h e => by rw [e, h0] at h; cases h
  refine ⟨f (fun e => by have := o.ob; rw [e, h0] at this; cases this) o.ob, f d1.symm o.sg, f d2.symm o.od, f d3.symm o.th, ⟨f d4.symm o.de.lst, o.de.len, fun i t dd h1 h2 => f (ft (o.de.at_ i t dd h1 h2)) (o.de.at_ i t dd h1 h2)⟩,
    f (fun e => nd.1 (.inr (e ▸ mu))) o.sp, f (fun e => nd.2.1 (e ▸ mu)) o.ud, by show _ = (S.undone.set h l).length; rw [List.length_set]; exact o.ul, fun i v m h1 h2 => ?_, o.nd, o.dj⟩
  have h2 : (S.undone.set h l)[i]? = some m := h2
  by_cases e : i = h
  · subst e
    rw [hu] at h1
    cases h1
    rw [List.getElem?_set_self (by rw [← o.ul]; exact hlt)] at h2
    cases h2
    exact upd_same
  · rw [List.getElem?_set_ne (fun z => e z.symm)] at h2
    refine f (fun z => ?_) (o.un i v m h1 h2)
    subst z
    exact e (nodup_inj nd.2.2 h1 hu)
/-- a new list is put in the place of one -/
theorem TabD.und0 (o : TabD B H tb a S) {h : Nat} {n : Addr} {l : List Nat} (hn : H n = some (.lst (nV l))) (hh : h < S.undone.length) (nn : n ≠ a.sp ∧ n ≠ a.ud ∧ n ∉ a.ua) (nm : n ≠ a.sg ∧ n ≠ a.od ∧ n ≠ a.th ∧ n ≠ a.dl) :
    TabD B (upd H a.ud (.lst ((a.ua.set h n).map V.ref))) tb { a with ua := a.ua.set h n } { S with undone := S.undone.set h l } := by
  have nd := o.nd
  rw [List.nodup_cons, List.mem_cons, List.nodup_cons] at nd
  obtain ⟨d1, d2, d3, d4⟩ := o.dj a.ud (by simp)
  have f : ∀ {c : Addr} {x : HO}, c ≠ a.ud → H c = some x → upd H a.ud (.lst ((a.ua.set h n).map V.ref)) c = some x := fun n h => by rw [upd_ne n]; exact h
  have ft : ∀ {c : Addr} {us : List V}, H c = some (.tup us) → c ≠ a.ud := fun h e => by rw [e, o.ud] at h; cases h
  have hlt : h < a.ua.length := by rw [o.ul]; exact hh
  have ms : ∀ c ∈ a.ua.set h n, c ∈ a.ua ∨ c = n := fun c hc => List.mem_or_eq_of_mem_set hc
  refine ⟨f (fun e => by have := o.ob; rw [e, o.ud] at this; cases this) o.ob, f d1.symm o.sg, f d2.symm o.od, f d3.symm o.th, ⟨f d4.symm o.de.lst, o.de.len, fun i t dd h1 h2 => f (ft (o.de.at_ i t dd h1 h2)) (o.de.at_ i t dd h1 h2)⟩,
    f (fun e => nd.1 (.inl e)) o.sp, upd_same, by show (a.ua.set h n).length = (S.undone.set h l).length; rw [List.length_set, List.length_set]; exact o.ul, fun i v m h1 h2 => ?_, ?_, fun c hc => ?_⟩
  · have h1 : (a.ua.set h n)[i]? = some v := h1
    have h2 : (S.undone.set h l)[i]? = some m := h2
    by_cases e : i = h
    · subst e
      rw [List.getElem?_set_self hlt] at h1
      rw [List.getElem?_set_self hh] at h2
      cases h1
      cases h2
      exact f nn.2.1 hn
    · rw [List.getElem?_set_ne (fun z => e z.symm)] at h1 h2
      exact f (fun z => nd.2.1 (z ▸ List.mem_of_getElem? h1)) (o.un i v m h1 h2)
  · show (a.sp :: a.ud :: a.ua.set h n).Nodup
    rw [List.nodup_cons, List.mem_cons, List.nodup_cons]
    refine ⟨fun z => ?_, fun z => ?_, ?_⟩
    · rcases z with z | z
      · exact nd.1 (.inl z)
      · rcases ms _ z with z | z
        · exact nd.1 (.inr z)
        · exact nn.1 z.symm
    · rcases ms _ z with z | z
      · exact nd.2.1 z
      · exact nn.2.1 z.symm
    · rw [List.nodup_iff_pairwise_ne, List.pairwise_iff_getElem]
      intro i j hi hj hij
      rw [List.length_set] at hi hj
      rw [List.getElem_set, List.getElem_set]
      have ne : ∀ k (hk : k < a.ua.length), a.ua[k] ≠ n := fun k hk z => nn.2.2 (z ▸ List.getElem_mem hk)
      by_cases c1 : h = i
      · rw [if_pos c1, if_neg (by omega)]
        exact (ne j hj).symm
      · rw [if_neg c1]
        by_cases c2 : h = j
        · rw [if_pos c2]
          exact ne i hi
        · rw [if_neg c2]
          exact fun z => by have := nodup_inj nd.2.2 (List.getElem?_eq_getElem hi) ((List.getElem?_eq_getElem hj).trans (congrArg some z.symm)); omega
  · have hc : c ∈ a.sp :: a.ud :: a.ua.set h n := hc
    rcases List.mem_cons.mp hc with z | z
    · exact o.dj c (by simp [z])
    · rcases List.mem_cons.mp z with z | z
      · exact o.dj c (by simp [z])
      · rcases ms _ z with z | z
        · exact o.dj c (by simp [z])
        · rw [z]; exact nm
end
/-! ### turn -/
def turnR (S : TSt) (n : Nat) (st : Bool) : List Deed := match S.deeds[n]? with
  | some d => S.deeds.set n (d.1, d.2.1, d.2.2.1, st)
  | none => S.deeds
theorem turnR_len (S : TSt) (n : Nat) (st : Bool) : (turnR S n st).length = S.deeds.length := by
  unfold turnR
  split
  · rw [List.length_set]
  · rfl
theorem setA_own {tb : Addr} {a : TA} {sg od th dl sp : Addr} {da : List Addr} {c : Addr} (h : ownT tb (setA a sg od th dl sp da) c) : ownT tb a c ∨ c = sg ∨ c = od ∨ c = th ∨ c = dl ∨ c = sp := by
  rcases h with e | e | e | e | e | e | e | e
  · exact .inl (.inl e)
  · exact .inr (.inl e)
  · exact .inr (.inr (.inl e))
  · exact .inr (.inr (.inr (.inl e)))
  · exact .inr (.inr (.inr (.inr (.inl e))))
  · exact .inr (.inr (.inr (.inr (.inr e))))
  · exact .inl (.inr (.inr (.inr (.inr (.inr (.inr (.inl e)))))))
  · exact .inl (.inr (.inr (.inr (.inr (.inr (.inr (.inr e)))))))
section
variable {P : Program} {w : World} {K : PySem.W.Frag} {mg : Str → Option Value} {base : Heap} {cs : List (Addr × Addr)} {B : Addr}
/-- what a table does, and its lists of the undone stay where they are -/
def Went2 (cs : List (Addr × Addr)) (B : Addr) (H : Hp) (tb : Addr) (a : TA) (S' : TSt) (Q : Hp → Prop) : Prop :=
  ∀ (a' : TA) (H' : Hp), a'.ud = a.ud → a'.ua = a.ua → a'.st = a.st → (∀ c o, H c = some o → NT cs c o → c ≠ tb → H' c = some o) → (∀ c, ownT tb a' c → ownT tb a c ∨ H c = none) → Tabs cs H' → (∀ b, H' b = none → H b = none) → TabD B H' tb a' S' → Q H'
def spTurn (cs : List (Addr × Addr)) (B C : Addr) : Sp := fun vs H Q E => ∃ (tb : Addr) (n : Nat) (st : Bool) (a : TA) (S : TSt), vs = [.ref tb, .int (n : Nat), .bl st] ∧ Tabs cs H ∧ TabD B H tb a S ∧ n < S.deeds.length ∧ SetPre S S.signs S.order (turnR S n st) ∧
  (PgOk (pageR S.signs S.order (turnR S n st)) → Went2 cs B H tb a (settleR S S.signs S.order (turnR S n st)) fun H' => Q .non H') ∧
  (¬ PgOk (pageR S.signs S.order (turnR S n st)) → ∀ H', Ex cs H H' → E (.ref C) none H')
abbrev nmTurn : List Str := ["self", "number", "stands", "hand", "sign", "mark", "stood", "deeds"]
theorem sc_turn : FnScope nmTurn ["self", "number", "stands"] (defScope (mth nTable 15)) := ⟨rfl, rfl, rfl, by decide +kernel, rfl, by decide +kernel, by decide +kernel⟩
theorem ok_turn {C : Addr} {f g : Addr} {fd fdg : FuncData} (T : Txt mg) (X : TabC K B) (F : Fun K "turn" "Table.turn" (mth nTable 15) f fd)
    (M : Meth K B "settle" g) (G : FnOk P w K mg base (L2.CX P w) 11 g fdg ["self", "signs", "order", "deeds"] (spSettle cs B C)) (bd : Binds K fdg ["self", "signs", "order", "deeds"] []) : FnOk P w K mg base (L2.CX P w) 12 f fd ["self", "number", "stands"] (spTurn cs B C) := by
  refine F.okX sc_turn (fun vs H Q E h => ?_) (fun cdv A outer s H vs Q E hr h => ?_)
  · obtain ⟨tb, n, st, a, S, rfl, _⟩ := h
    rfl
  · obtain ⟨tb, n, st, a, S, rfl, hT, hD, hn, hO, k, kx⟩ := h
    have nd := sc_turn.nd
    refine ⟨_, pss_cons (ps_asg (pe_ix ix_list (pe_fld (pv 0) rfl) (pv 1) (fun _ _ => rfl)) (pg_tup rfl (pgs_cons (pg_name (i := 3) nd rfl (.inl rfl)) (pgs_cons (pg_name (i := 4) nd rfl (.inl rfl)) (pgs_cons (pg_name (i := 5) nd rfl (.inl rfl)) (pgs_cons (pg_name (i := 6) nd rfl (.inl rfl)) pgs_nil))))))
      (pss_cons (ps_set (i := 7) nd rfl (.inl rfl) (pe_callTy call_list_of (by rfl) T.list (by decide +kernel) (pa_cons (pe_fld (pv 0) rfl) pa_nil)))
      (pss_cons (ps_asg (pe_tup (pa_cons (pv 3) (pa_cons (pv 4) (pa_cons (pv 5) (pa_cons (pv 2) pa_nil))))) (pg_sub (pv 7) (pv 1) set_list))
      (pss_one (ps_expr (pe_methS (pv 0) X.cls M G hr bd (fun σ => passAt (takes_of rfl rfl rfl rfl) σ) (pa_cons (pe_fld (pv 0) rfl) (pa_cons (pe_fld (pv 0) rfl) (pa_cons (pv 7) pa_nil)))))))), ?_⟩
    obtain ⟨d, hd⟩ := getP (xs := S.deeds) (i := n) hn
    obtain ⟨t, ht⟩ := getP (xs := a.da) (i := n) (by rw [hD.de.len]; exact hn)
    have htd := hD.de.at_ n t d ht hd
    have ed : turnR S n st = S.deeds.set n (d.1, d.2.1, d.2.2.1, st) := by unfold turnR; rw [hd]
    refine ⟨_, rfl, tb, B, a.dx, _, _, rfl, hD.ob, X.cls, X.nDeeds, rfl, _, rfl, a.dl, _, _, .ref t, rfl, rfl, SqL.of hD.de.lst, atI_nat (by rw [List.getElem?_map, ht]; rfl), t, _, rfl, .inl (.inl htd), rfl, _, _, rfl, _, _, rfl, _, _, rfl, _, _, rfl, rfl, ?_⟩
    refine ⟨_, rfl, tb, B, a.dx, _, _, rfl, hD.ob, X.cls, X.nDeeds, rfl, a.dl, _, rfl, .inl (SqL.of hD.de.lst), fun L nL => ?_⟩
    have x1 : ∀ {o : HO}, Same H (upd H L o) := same_new nL
    refine ⟨_, rfl, _, rfl, _, rfl, _, rfl, by show 4 ≤ sizeLine; decide, fun p np => ⟨_, rfl, _, rfl, L, _, _, n, rfl, rfl, by rw [upd_ne (ne_of_none upd_same np)]; exact upd_same, ixN_nat (by rw [List.length_map, hD.de.len]; exact hn), ?_⟩⟩
    have npL : p ≠ L := fun e => by rw [e, upd_same] at np; cases np
    have np0 : H p = none := by rw [upd_ne npL] at np; exact np
    have em : (a.da.map V.ref).set n (V.ref p) = (a.da.set n p).map V.ref := by rw [List.map_set]
    dsimp only
    rw [em]
    have hx : ∀ c o, H c = some o → upd (upd (upd H L (.lst (a.da.map V.ref))) p (.tup [.int (d.1 : Nat), .str d.2.1, .int (d.2.2.1 : Nat), .bl st])) L (.lst ((a.da.set n p).map V.ref)) c = some o := fun c o h => by
      rw [upd_ne (ne_of_none h nL), upd_ne (ne_of_none h np0), upd_ne (ne_of_none h nL)]
      exact h
    have hxs : Same H (upd (upd (upd H L (.lst (a.da.map V.ref))) p (.tup [.int (d.1 : Nat), .str d.2.1, .int (d.2.2.1 : Nat), .bl st])) L (.lst ((a.da.set n p).map V.ref))) := hx
    have hp : upd (upd (upd H L (.lst (a.da.map V.ref))) p (.tup [.int (d.1 : Nat), .str d.2.1, .int (d.2.2.1 : Nat), .bl st])) L (.lst ((a.da.set n p).map V.ref)) p = some (.tup [.int (d.1 : Nat), .str d.2.1, .int (d.2.2.1 : Nat), .bl st]) := by rw [upd_ne npL, upd_same]
    have hL : upd (upd (upd H L (.lst (a.da.map V.ref))) p (.tup [.int (d.1 : Nat), .str d.2.1, .int (d.2.2.1 : Nat), .bl st])) L (.lst ((a.da.set n p).map V.ref)) L = some (.lst ((a.da.set n p).map V.ref)) := upd_same
    generalize upd (upd (upd H L (.lst (a.da.map V.ref))) p (.tup [.int (d.1 : Nat), .str d.2.1, .int (d.2.2.1 : Nat), .bl st])) L (.lst ((a.da.set n p).map V.ref)) = H1 at hxs hp hL ⊢
    clear hx
    have hD1 := hD.same hxs
    have e1 := same_ex hxs hT
    have hdl : DeedsAt H1 L (a.da.set n p) (turnR S n st) := by
      refine ⟨hL, by rw [List.length_set, turnR_len]; exact hD.de.len, fun i q dd h1 h2 => ?_⟩
      rw [ed] at h2
      by_cases e : i = n
      · subst e
        rw [List.getElem?_set_self (by rw [hD.de.len]; exact hn)] at h1
        rw [List.getElem?_set_self hn] at h2
        cases h1
        cases h2
        exact hp
      · rw [List.getElem?_set_ne (fun z => e z.symm)] at h1 h2
        exact hxs _ _ (hD.de.at_ i q dd h1 h2)
    have old : ∀ {c : Addr} {o : HO}, H c = some o → c ≠ L := fun h => ne_of_none h nL
    have ou : ∀ c ∈ a.ud :: a.ua, c ≠ a.sg ∧ c ≠ a.od ∧ c ≠ L := fun c hc => by
      obtain ⟨h1, h2, _, _⟩ := hD.dj c (List.mem_cons_of_mem _ hc)
      refine ⟨h1, h2, ?_⟩
      rcases List.mem_cons.mp hc with e | e
      · rw [e]; exact old hD.ud
      · obtain ⟨i, hi⟩ := List.mem_iff_getElem?.mp e
        obtain ⟨l, hl⟩ := getP (xs := S.undone) (i := i) (by rw [← hD.ul]; exact (List.getElem?_eq_some_iff.mp hi).1)
        exact old (hD.un i c l hi hl)
    refine ⟨_, rfl, tb, a.dx, _, rfl, hD1.ob, rfl, _, rfl, tb, B, a.dx, _, _, rfl, hD1.ob, X.cls, X.nSigns, rfl, _, rfl, tb, B, a.dx, _, _, rfl, hD1.ob, X.cls, X.nOrder, rfl, _, rfl, tb, a.sg, a.od, L, a, S, S.signs, S.order, turnR S n st, _, rfl, e1.tab, hD1, hD1.sg, hD1.od, hdl, ou, hO, fun pg th sp H2 nth nsp kk t2 o2 hD2 => ?_, fun pg H2 x2 => kx pg H2 (e1.trans x2)⟩
    refine k pg (setA a a.sg a.od th L sp (a.da.set n p)) H2 rfl rfl rfl (fun c o h n m => kk c o (hxs c o h) n m) (fun c hc => ?_) t2 (fun b hb => e1.old b (o2 b hb)) hD2
    rcases setA_own hc with z | z | z | z | z | z
    · exact .inl z
    · exact .inl (z ▸ .inr (.inl rfl))
    · exact .inl (z ▸ .inr (.inr (.inl rfl)))
    · exact .inr (z ▸ same_old hxs nth)
    · exact .inr (z ▸ nL)
    · exact .inr (z ▸ same_old hxs nsp)
end
end TG


namespace TG
open PySem PySem.Spec PyProof.Rows L2 Gx
/-! ### back, again, rub -/
def d0 : Deed := (0, "", 0, false)
def stR (ds : List Deed) (h n : Nat) : List Nat := (List.range n).filter fun i => decide ((ds.getD i d0).1 = h) && (ds.getD i d0).2.2.2
theorem stR_succ {ds : List Deed} {h i : Nat} {d : Deed} (hd : ds[i]? = some d) : stR ds h (i + 1) = stR ds h i ++ if (decide (d.1 = h) && d.2.2.2) = true then [i] else [] := by
  have e : ds.getD i d0 = d := by rw [List.getD_eq_getElem?_getD, hd]; rfl
  unfold stR
  rw [List.range_succ, List.filter_append, List.filter_cons, List.filter_nil, e]
theorem stR_len (ds : List Deed) (h n : Nat) : (stR ds h n).length ≤ n := by
  unfold stR
  have := List.length_filter_le (fun i => decide ((ds.getD i d0).1 = h) && (ds.getD i d0).2.2.2) (List.range n)
  rw [List.length_range] at this
  exact this
theorem stR_lt {ds : List Deed} {h n m : Nat} (hm : m ∈ stR ds h n) : m < n := List.mem_range.mp (List.mem_filter.mp hm).1
theorem atN_last {l : List Nat} (h : l ≠ []) : atI (nV l) (-1) = some (.int (l.getLast?.getD 0 : Nat)) := by
  have lp : 0 < l.length := List.length_pos_iff.mpr h
  have e : ixN (nV l).length (-1) = some (l.length - 1) := by
    unfold ixN nV
    rw [List.length_map]
    simp
    omega
  unfold atI
  rw [e]
  show (nV l)[l.length - 1]? = _
  refine (nV_get (m := l.getLast?.getD 0) ?_)
  rw [List.getLast?_eq_getElem?, List.getElem?_eq_getElem (by omega)]
  rfl
/-- what going back does -/
def backR (S : TSt) (h : Nat) : Bool × TSt := match (stR S.deeds h S.deeds.length).getLast? with
  | none => (false, S)
  | some n => (true, { settleR S S.signs S.order (turnR S n false) with undone := S.undone.set h (S.undone.getD h [] ++ [n]) })
def againR (S : TSt) (h : Nat) : Bool × TSt := match (S.undone.getD h []).getLast? with
  | none => (false, S)
  | some n => (true, { settleR S S.signs S.order (turnR S n true) with undone := S.undone.set h (S.undone.getD h []).dropLast })
def rubR (S : TSt) (h m : Nat) : TSt := { settleR S S.signs S.order (S.deeds ++ [((h, ("" : Str), m, true) : Deed)]) with undone := S.undone.set h [] }
theorem ownT_eq {tb : Addr} {a : TA} {u : List Addr} {c : Addr} (h : ownT tb { a with ua := u } c) : ownT tb a c ∨ c ∈ u := by
  rcases h with e | e | e | e | e | e | e | e
  · exact .inl (.inl e)
  · exact .inl (.inr (.inl e))
  · exact .inl (.inr (.inr (.inl e)))
  · exact .inl (.inr (.inr (.inr (.inl e))))
  · exact .inl (.inr (.inr (.inr (.inr (.inl e)))))
  · exact .inl (.inr (.inr (.inr (.inr (.inr (.inl e))))))
  · exact .inl (.inr (.inr (.inr (.inr (.inr (.inr (.inl e)))))))
  · exact .inr e
section
variable {P : Program} {w : World} {K : PySem.W.Frag} {mg : Str → Option Value} {base : Heap} {cs : List (Addr × Addr)} {B C G : Addr}
def spTBack (cs : List (Addr × Addr)) (B C : Addr) : Sp := fun vs H Q E => ∃ (tb : Addr) (h : Nat) (a : TA) (S : TSt), vs = [.ref tb, .int (h : Nat)] ∧ Tabs cs H ∧ TabD B H tb a S ∧ TOk S ∧ h < S.spots.length ∧ (∀ n ∈ stR S.deeds h S.deeds.length, SetPre S S.signs S.order (turnR S n false)) ∧
  ((∀ n, (stR S.deeds h S.deeds.length).getLast? = some n → PgOk (pageR S.signs S.order (turnR S n false))) → Went cs B H tb a (backR S h).2 fun H' => Q (.bl (backR S h).1) H') ∧
  (∀ n, (stR S.deeds h S.deeds.length).getLast? = some n → ¬ PgOk (pageR S.signs S.order (turnR S n false)) → ∀ H', Ex cs H H' → E (.ref C) none H')
abbrev nmTBack : List Str := ["self", "hand", "standing", "number", "own", "sign", "mark", "stands"]
theorem sc_tback : FnScope nmTBack ["self", "hand"] (defScope (mth nTable 3)) := ⟨rfl, rfl, rfl, by decide +kernel, rfl, by decide +kernel, by decide +kernel⟩
theorem ok_tback {f g1 g2 : Addr} {fd fd1 fd2 : FuncData} (T : Txt mg) (X : TabC K B) (F : Fun K "back" "Table.back" (mth nTable 3) f fd)
    (M1 : Meth K B "check_hand" g1) (G1 : FnOk P w K mg base CX0 2 g1 fd1 ["self", "hand"] (spHand B)) (b1 : Binds K fd1 ["self", "hand"] [])
    (M2 : Meth K B "turn" g2) (G2 : FnOk P w K mg base (L2.CX P w) 12 g2 fd2 ["self", "number", "stands"] (spTurn cs B C)) (b2 : Binds K fd2 ["self", "number", "stands"] []) : FnOk P w K mg base (L2.CX P w) 13 f fd ["self", "hand"] (spTBack cs B C) := by
  refine F.okX sc_tback (fun vs H Q E h => ?_) (fun cdv A outer s H vs Q E hr h => ?_)
  · obtain ⟨tb, h, a, S, rfl, _⟩ := h
    rfl
  · obtain ⟨tb, h, a, S, rfl, hT, hD, hO, hh, hs, k, kx⟩ := h
    have nd := sc_tback.nd
    have r2 : Room 2 _ := hr.mono (by decide)
    have szl : (9000 : Nat) < sizeLine := by decide
    have dn := hO.dn
    refine ⟨_, pss_cons (ps_expr (pe_meth (pv 0) X.cls M1 G1 r2 b1 .nil pass0 (pa_cons (pv 1) pa_nil)))
      (pss_cons (ps_setLc (i := 2) (own := [("number", 3), ("own", 4), ("sign", 5), ("mark", 6), ("stands", 7)]) (g := gTup K 2 (gCons (gName 3) (gCons (gTup K 4 (gCons (gName 4) (gCons (gName 5) (gCons (gName 6) (gCons (gName 7) gNil))))) gNil))) rfl nd rfl rfl (sw_true rfl rfl rfl (by decide +kernel)) (pi_enum (by rfl) T.enum (pa_cons (pe_fld (pv 0) rfl) pa_nil)) (blkOk_by (own := [("number", 3), ("own", 4), ("sign", 5), ("mark", 6), ("stands", 7)]) (N := nmTBack) (sc := defScope (mth nTable 3)) (by decide +kernel))
        (fun _ _ _ _ _ => pg_tup rfl (pgs_cons (pg_name (i := 3) nd rfl (.inl rfl) (.inr rfl)) (pgs_cons (pg_tup rfl (pgs_cons (pg_name (i := 4) nd rfl (.inl rfl) (.inr rfl)) (pgs_cons (pg_name (i := 5) nd rfl (.inl rfl) (.inr rfl)) (pgs_cons (pg_name (i := 6) nd rfl (.inl rfl) (.inr rfl)) (pgs_cons (pg_name (i := 7) nd rfl (.inl rfl) (.inr rfl)) pgs_nil))))) pgs_nil)))
        (fun _ _ _ _ _ => pts_one (PW.pt (pw_and (pt_cmpR op_eq (pv 4) (pv 1) (nomark _)) (pw_and1 (pt_val (pv 7)))))) (fun _ _ _ _ _ => pv 3))
      (pss_cons (ps_if (pt_cmpR op_eq (pe_callB call_len_seq (by rfl) T.len PySem.boot_len (pa_cons (pv 2) pa_nil)) pe_int (nomark _)) (pss_one (ps_ret pe_bl)) pss_nil)
      (pss_cons (ps_expr (pe_methS (pv 0) X.cls M2 G2 hr b2 (fun σ => passAt (takes_of rfl rfl rfl rfl) σ) (pa_cons (pe_ix ix_list (pv 2) (pe_un un_neg pe_int) (fun _ _ => rfl)) (pa_cons pe_bl pa_nil))))
      (pss_cons (ps_expr (pe_bm PySem.F.plainAttrs_list PySem.F.slot_list_append PySem.F.type_list_append mt_append (pe_ix ix_list (pe_fld (pv 0) rfl) (pv 1) (fun _ _ => rfl)) (pa_cons (pe_ix ix_list (pv 2) (pe_un un_neg pe_int) (fun _ _ => rfl)) pa_nil)))
      (pss_one (ps_ret pe_bl)))))), ?_⟩
    refine ⟨_, rfl, tb, a.dx, _, rfl, hD.ob, rfl, _, rfl, tb, h, a, S, rfl, hD, hh, ?_⟩
    refine ⟨_, rfl, tb, B, a.dx, _, _, rfl, hD.ob, X.cls, X.nDeeds, rfl, a.dl, _, rfl, SqL.of hD.de.lst, fun D nD => lc_it (walk_enum (xs := a.da.map V.ref)) (fun i H' => Same H H' ∧ H' D = some (.lst (nV (stR S.deeds h i)))) ⟨same_new nD, upd_same⟩ (fun i H' _ x => SqL.of (x.1 _ _ hD.de.lst)) ?_ ?_⟩
    · rintro i x H3 H4 hi ⟨o1, o2⟩ ⟨Tp, v, u, rfl, hn, rfl, hv, hu⟩
      cases hv
      obtain ⟨t, ht, rfl⟩ := get_map hu
      obtain ⟨d, hd⟩ := getP (xs := S.deeds) (i := i) (by rw [← hD.de.len]; exact (List.getElem?_eq_some_iff.mp ht).1)
      have x4 : Same H3 (upd H3 Tp (.tup [.int (i : Nat), .ref t])) := same_new hn
      have hTp : upd H3 Tp (.tup [.int (i : Nat), .ref t]) Tp = some (.tup [.int (i : Nat), .ref t]) := upd_same
      generalize upd H3 Tp (.tup [.int (i : Nat), .ref t]) = H4 at x4 hTp ⊢
      have htd := x4 _ _ (o1 _ _ (hD.de.at_ i t d ht hd))
      have li := (List.getElem?_eq_some_iff.mp hd).1
      refine ⟨Tp, _, rfl, .inl (.inl hTp), rfl, _, _, rfl, _, _, rfl, ⟨t, _, rfl, .inl (.inl htd), rfl, _, _, rfl, _, _, rfl, _, _, rfl, _, _, rfl, rfl, rfl, rfl, ?_⟩⟩
      rw [stR_succ hd]
      refine ⟨_, rfl, _, rfl, rfl, _, rfl, ?_⟩
      have ei : decide (V.int (d.1 : Nat) = V.int (h : Nat)) = decide (d.1 = h) := by
        by_cases c : d.1 = h
        · rw [decide_eq_true c, c, decide_eq_true rfl]
        · rw [decide_eq_false c, decide_eq_false (fun z => c (by injection z with z; omega))]
      rw [ei]
      have sl := stR_len S.deeds h i
      have o24 := x4 _ _ o2
      have ok4 : Same H H4 := same_trans o1 x4
      have fin : (decide (d.1 = h) && d.2.2.2) = true → ∃ acc, H4 D = some (.lst acc) ∧ acc.length < sizeLine ∧ (Same H (upd H4 D (.lst (acc ++ [.int (i : Nat)]))) ∧ upd H4 D (.lst (acc ++ [.int (i : Nat)])) D = some (.lst (nV (stR S.deeds h i ++ if (decide (d.1 = h) && d.2.2.2) = true then [i] else [])))) := fun c => by
        rw [if_pos c]
        exact ⟨_, o24, by rw [nV_len]; omega, same_upd ok4 nD, by rw [upd_same]; simp [nV]⟩
      by_cases c : d.1 = h
      · rw [decide_eq_true c]
        cases e2 : d.2.2.2 with
        | true =>
          rw [decide_eq_true c, e2] at fin
          exact iteT ⟨_, rfl, true, rfl, iteT ⟨_, rfl, fin rfl⟩⟩
        | false =>
          refine iteT ⟨_, rfl, false, rfl, iteF ⟨ok4, ?_⟩⟩
          simpa using o24
      · rw [decide_eq_false c]
        refine iteF (iteF ⟨ok4, ?_⟩)
        simpa using o24
    · rintro H1 ⟨x1, hDl⟩
      have e0 : (a.da.map V.ref).length = S.deeds.length := by rw [List.length_map]; exact hD.de.len
      rw [e0] at hDl
      have hD1 := hD.same x1
      have e1 := same_ex x1 hT
      have el : (nV (stR S.deeds h S.deeds.length)).length = (stR S.deeds h S.deeds.length).length := nV_len _
      refine ⟨_, rfl, D, _, rfl, .inl (SqL.of hDl), rfl, _, rfl, ?_⟩
      rw [el]
      cases eg : (stR S.deeds h S.deeds.length).getLast? with
      | none =>
        replace k := k (fun n z => by rw [eg] at z; cases z)
        unfold backR at k
        rw [eg] at k
        rw [List.getLast?_eq_none_iff.mp eg]
        exact iteT (k a H1 rfl (KN.same x1) (fun c hc => .inl hc) e1.tab (fun b hb => same_old x1 hb) hD1)
      | some n =>
        have mn := List.mem_of_getLast? eg
        have ne : stR S.deeds h S.deeds.length ≠ [] := fun z => by rw [z] at mn; cases mn
        have lp : 0 < (stR S.deeds h S.deeds.length).length := List.length_pos_iff.mpr ne
        have en : (stR S.deeds h S.deeds.length).getLast?.getD 0 = n := by rw [eg]; rfl
        have la := atN_last ne
        rw [en] at la
        rw [decide_eq_false (fun z => by injection z with z; omega)]
        have hu : h < S.undone.length := by rw [← hO.hn]; exact hh
        refine iteF ⟨_, rfl, tb, a.dx, _, rfl, hD1.ob, rfl, _, rfl, 1, rfl, D, _, _, _, rfl, rfl, SqL.of hDl, la, tb, n, false, a, S, rfl, e1.tab, hD1, stR_lt mn, hs n mn, fun pg a' H2 eud eua est kk ho t2 o2 hD2 => ?_, fun pg H2 x2 => kx n eg pg H2 (e1.trans x2)⟩
        replace k := k (fun m z => by rw [eg] at z; cases z; exact pg)
        unfold backR at k
        rw [eg] at k
        have nDt : D ≠ tb := fun z => by have := x1 _ _ hD.ob; rw [← z, hDl] at this; cases this
        have hDl2 := kk _ _ hDl (.inl fun ps z => by cases z) nDt
        obtain ⟨u, l, q1, q2, q3⟩ := hD2.nth (h := h) (by exact hu)
        have q2' : S.undone[h]? = some l := q2
        have el2 : S.undone.getD h [] = l := by rw [List.getD_eq_getElem?_getD, q2']; rfl
        have ll := (hO.un l (List.mem_of_getElem? q2')).1
        refine ⟨_, rfl, tb, B, _, _, _, rfl, hD2.ob, X.cls, X.nUndone, rfl, _, rfl, _, _, _, .ref u, rfl, rfl, SqL.of hD2.ud, atI_nat (by rw [List.getElem?_map, q1]; rfl), .inl ⟨rfl, _, SqL.of q3⟩, _, rfl, 1, rfl, D, _, _, _, rfl, rfl, SqL.of hDl2, la, u, _, _, rfl, rfl, q3, by rw [nV_len]; omega, ?_⟩
        have ea : nV l ++ [V.int (n : Nat)] = nV (l ++ [n]) := by simp [nV]
        rw [ea]
        rw [el2] at k
        have hD3 := hD2.und q1 (l ++ [n])
        have k2 : KN cs (ownT tb a) H H2 := fun c o h m nn => kk c o (x1 c o h) m fun z => nn (.inl z)
        have hc' : ∀ c, ownT tb a' c → ownT tb a c ∨ H c = none := fun c hc => (ho c hc).imp id fun z => same_old x1 z
        have uo : ownT tb a u := .inr (.inr (.inr (.inr (.inr (.inr (.inr (by rw [← eua]; exact List.mem_of_getElem? q1)))))))
        refine k a' _ est (k2.tr (upd_ownN uo)) hc' (tabs_lst t2 q3) (fun b hb => same_old x1 (o2 b (upd_old q3 hb))) hD3
end
end TG


namespace TG
open PySem PySem.Spec PyProof.Rows L2 Gx
section
variable {P : Program} {w : World} {K : PySem.W.Frag} {mg : Str → Option Value} {base : Heap} {cs : List (Addr × Addr)} {B C G : Addr}
def spTAgain (cs : List (Addr × Addr)) (B C : Addr) : Sp := fun vs H Q E => ∃ (tb : Addr) (h : Nat) (a : TA) (S : TSt), vs = [.ref tb, .int (h : Nat)] ∧ Tabs cs H ∧ TabD B H tb a S ∧ TOk S ∧ h < S.spots.length ∧ (∀ n ∈ S.undone.getD h [], SetPre S S.signs S.order (turnR S n true)) ∧
  ((∀ n, (S.undone.getD h []).getLast? = some n → PgOk (pageR S.signs S.order (turnR S n true))) → Went cs B H tb a (againR S h).2 fun H' => Q (.bl (againR S h).1) H') ∧
  (∀ n, (S.undone.getD h []).getLast? = some n → ¬ PgOk (pageR S.signs S.order (turnR S n true)) → ∀ H', Ex cs H H' → E (.ref C) none H')
theorem sc_tagain : FnScope ["self", "hand"] ["self", "hand"] (defScope (mth nTable 4)) := ⟨rfl, rfl, rfl, by decide +kernel, rfl, by decide +kernel, by decide +kernel⟩
theorem ok_tagain {f g1 g2 : Addr} {fd fd1 fd2 : FuncData} (T : Txt mg) (X : TabC K B) (F : Fun K "again" "Table.again" (mth nTable 4) f fd)
    (M1 : Meth K B "check_hand" g1) (G1 : FnOk P w K mg base CX0 2 g1 fd1 ["self", "hand"] (spHand B)) (b1 : Binds K fd1 ["self", "hand"] [])
    (M2 : Meth K B "turn" g2) (G2 : FnOk P w K mg base (L2.CX P w) 12 g2 fd2 ["self", "number", "stands"] (spTurn cs B C)) (b2 : Binds K fd2 ["self", "number", "stands"] []) : FnOk P w K mg base (L2.CX P w) 13 f fd ["self", "hand"] (spTAgain cs B C) := by
  refine F.okX sc_tagain (fun vs H Q E h => ?_) (fun cdv A outer s H vs Q E hr h => ?_)
  · obtain ⟨tb, h, a, S, rfl, _⟩ := h
    rfl
  · obtain ⟨tb, h, a, S, rfl, hT, hD, hO, hh, hs, k, kx⟩ := h
    have r2 : Room 2 _ := hr.mono (by decide)
    refine ⟨_, pss_cons (ps_expr (pe_meth (pv 0) X.cls M1 G1 r2 b1 .nil pass0 (pa_cons (pv 1) pa_nil)))
      (pss_cons (ps_if (pt_cmpR op_eq (pe_callB call_len_seq (by rfl) T.len PySem.boot_len (pa_cons (pe_ix ix_list (pe_fld (pv 0) rfl) (pv 1) (fun _ _ => rfl)) pa_nil)) pe_int (nomark _)) (pss_one (ps_ret pe_bl)) pss_nil)
      (pss_cons (ps_expr (pe_methS (pv 0) X.cls M2 G2 hr b2 (fun σ => passAt (takes_of rfl rfl rfl rfl) σ) (pa_cons (pe_ix ix_list (pe_ix ix_list (pe_fld (pv 0) rfl) (pv 1) (fun _ _ => rfl)) (pe_un un_neg pe_int) (fun _ _ => rfl)) (pa_cons pe_bl pa_nil))))
      (pss_cons (ps_expr (pe_bm0 PySem.F.plainAttrs_list PySem.F.slot_list_pop PySem.F.type_list_pop mt_pop (pe_ix ix_list (pe_fld (pv 0) rfl) (pv 1) (fun _ _ => rfl))))
      (pss_one (ps_ret pe_bl))))), ?_⟩
    have hu : h < S.undone.length := by rw [← hO.hn]; exact hh
    obtain ⟨u, l, q1, q2, q3⟩ := hD.nth hu
    have el : S.undone.getD h [] = l := by rw [List.getD_eq_getElem?_getD, q2]; rfl
    have eq1 : (a.ua.map V.ref)[h]? = some (.ref u) := by rw [List.getElem?_map, q1]; rfl
    refine ⟨_, rfl, tb, a.dx, _, rfl, hD.ob, rfl, _, rfl, tb, h, a, S, rfl, hD, hh, ?_⟩
    refine ⟨_, rfl, tb, B, a.dx, _, _, rfl, hD.ob, X.cls, X.nUndone, rfl, _, rfl, a.ud, _, _, .ref u, rfl, rfl, SqL.of hD.ud, atI_nat eq1, u, _, rfl, .inl (SqL.of q3), rfl, _, rfl, ?_⟩
    rw [nV_len]
    rw [el] at hs k kx
    cases eg : l.getLast? with
    | none =>
      replace k := k (fun n z => by rw [eg] at z; cases z)
      unfold againR at k
      rw [el, eg] at k
      rw [List.getLast?_eq_none_iff.mp eg]
      exact iteT (k a H rfl (KN.same same_refl) (fun c hc => .inl hc) hT (fun b hb => hb) hD)
    | some n =>
      have mn := List.mem_of_getLast? eg
      have ne : l ≠ [] := fun z => by rw [z] at mn; cases mn
      have lp : 0 < l.length := List.length_pos_iff.mpr ne
      have en : l.getLast?.getD 0 = n := by rw [eg]; rfl
      have la := atN_last ne
      rw [en] at la
      rw [decide_eq_false (fun z => by injection z with z; omega)]
      refine iteF ⟨_, rfl, tb, a.dx, _, rfl, hD.ob, rfl, _, rfl, tb, B, a.dx, _, _, rfl, hD.ob, X.cls, X.nUndone, rfl, _, rfl, a.ud, _, _, .ref u, rfl, rfl, SqL.of hD.ud, atI_nat eq1, 1, rfl, u, _, _, _, rfl, rfl, SqL.of q3, la, tb, n, true, a, S, rfl, hT, hD, (hO.un l (List.mem_of_getElem? q2)).2 n mn, hs n mn, fun pg a' H2 eud eua est kk ho t2 o2 hD2 => ?_, fun pg H2 x2 => kx n eg pg H2 x2⟩
      replace k := k (fun m z => by rw [eg] at z; cases z; exact pg)
      unfold againR at k
      rw [el, eg] at k
      have q1' : a'.ua[h]? = some u := by rw [eua]; exact q1
      have q3' : H2 u = some (.lst (nV l)) := hD2.un h u l q1' q2
      have lx : (nV l)[(nV l).length - 1]? = some (.int (n : Nat)) := by
        rw [nV_len]
        refine nV_get ?_
        rw [← en, List.getLast?_eq_getElem?, List.getElem?_eq_getElem (by omega)]
        rfl
      refine ⟨_, rfl, tb, B, _, _, _, rfl, hD2.ob, X.cls, X.nUndone, rfl, _, rfl, _, _, _, .ref u, rfl, rfl, SqL.of hD2.ud, atI_nat (by rw [List.getElem?_map, q1']; rfl), .inl ⟨rfl, _, SqL.of q3'⟩, u, _, _, rfl, rfl, q3', lx, ?_⟩
      have ea : (nV l).dropLast = nV l.dropLast := by unfold nV; rw [List.map_dropLast]
      rw [ea]
      have hD3 := hD2.und q1' l.dropLast
      have uo : ownT tb a u := .inr (.inr (.inr (.inr (.inr (.inr (.inr (List.mem_of_getElem? q1)))))))
      have k2 : KN cs (ownT tb a) H H2 := fun c o h m nn => kk c o h m fun z => nn (.inl z)
      exact k a' _ est (k2.tr (upd_ownN uo)) ho (tabs_lst t2 q3') (fun b hb => o2 b (upd_old q3' hb)) hD3
/-! ### rub -/
def spTRub (cs : List (Addr × Addr)) (B C TM : Addr) : Sp := fun vs H Q E => ∃ (tb : Addr) (h : Nat) (a : TA) (S : TSt), vs = [.ref tb, .int (h : Nat)] ∧ Tabs cs H ∧ TabD B H tb a S ∧ TOk S ∧ h < S.spots.length ∧
  (∀ m, nearR S h (-1) = some m → SetPre S S.signs S.order (S.deeds ++ [((h, ("" : Str), m, true) : Deed)]) ∧ (PgOk (pageR S.signs S.order (S.deeds ++ [((h, ("" : Str), m, true) : Deed)])) → Went cs B H tb a (rubR S h m) fun H' => Q .non H') ∧ (¬ PgOk (pageR S.signs S.order (S.deeds ++ [((h, ("" : Str), m, true) : Deed)])) → ∀ H', Ex cs H H' → E (.ref TM) none H')) ∧
  (nearR S h (-1) = none → ∀ H', Ex cs H H' → E (.ref C) none H')
abbrev nmTRub : List Str := ["self", "hand", "mark"]
theorem sc_trub : FnScope nmTRub ["self", "hand"] (defScope (mth nTable 2)) := ⟨rfl, rfl, rfl, by decide +kernel, rfl, by decide +kernel, by decide +kernel⟩
theorem ok_trub {TM : Addr} {f g1 g2 g3 : Addr} {fd fd1 fd2 fd3 : FuncData} (T : Txt mg) (Er : ErrC K mg "BadCell" C G) (X : TabC K B) (F : Fun K "rub" "Table.rub" (mth nTable 2) f fd)
    (M1 : Meth K B "check_hand" g1) (G1 : FnOk P w K mg base CX0 2 g1 fd1 ["self", "hand"] (spHand B)) (b1 : Binds K fd1 ["self", "hand"] [])
    (M2 : Meth K B "near" g2) (G2 : FnOk P w K mg base CX0 3 g2 fd2 ["self", "hand", "by"] (spNear B)) (b2 : Binds K fd2 ["self", "hand", "by"] [])
    (M3 : Meth K B "settle" g3) (G3 : FnOk P w K mg base (L2.CX P w) 11 g3 fd3 ["self", "signs", "order", "deeds"] (spSettle cs B TM)) (b3 : Binds K fd3 ["self", "signs", "order", "deeds"] []) : FnOk P w K mg base (L2.CX P w) 12 f fd ["self", "hand"] (spTRub cs B C TM) := by
  refine F.okX sc_trub (fun vs H Q E h => ?_) (fun cdv A outer s H vs Q E hr h => ?_)
  · obtain ⟨tb, h, a, S, rfl, _⟩ := h
    rfl
  · obtain ⟨tb, h, a, S, rfl, hT, hD, hO, hh, ky, kn⟩ := h
    have nd := sc_trub.nd
    have r2 : Room 2 _ := hr.mono (by decide)
    have r3 : Room 3 _ := hr.mono (by decide)
    refine ⟨_, pss_cons (ps_expr (pe_meth (pv 0) X.cls M1 G1 r2 b1 .nil pass0 (pa_cons (pv 1) pa_nil)))
      (pss_cons (ps_set (i := 2) nd rfl (.inl rfl) (pe_meth (pv 0) X.cls M2 G2 r3 b2 .nil pass0 (pa_cons (pv 1) (pa_cons (pe_un un_neg pe_int) pa_nil))))
      (pss_cons (ps_if (pt_cmpR op_isN (pv 2) pe_non (nomark _)) (pss_one (ps_raise rfl (takes_of rfl rfl rfl rfl) (pmk_own PySem.F.excBase_ValueError Er.exc Er.mg_ Er.kp (raises_own Er.sub Er.ty) rfl))) pss_nil)
      (pss_cons (ps_expr (pe_methS (pv 0) X.cls M3 G3 hr b3 (fun σ => passAt (takes_of rfl rfl rfl rfl) σ) (pa_cons (pe_fld (pv 0) rfl) (pa_cons (pe_fld (pv 0) rfl) (pa_cons (pe_op op_cat (pe_fld (pv 0) rfl) (pe_lst (pa_cons (pe_tup (pa_cons (pv 1) (pa_cons pe_str (pa_cons (pv 2) (pa_cons pe_bl pa_nil))))) pa_nil))) pa_nil)))))
      (pss_one (ps_asg (pe_lst pa_nil) (pg_sub (pe_fld (pv 0) rfl) (pv 1) set_list)))))), ?_⟩
    refine ⟨_, rfl, tb, a.dx, _, rfl, hD.ob, rfl, _, rfl, tb, h, a, S, rfl, hD, hh, ?_⟩
    refine ⟨_, rfl, tb, a.dx, _, rfl, hD.ob, rfl, _, rfl, 1, rfl, tb, h, -1, a, S, rfl, hD, hO, hh, fun H1 x1 => ?_⟩
    have hD1 := hD.same x1
    have e1 := same_ex x1 hT
    cases e : nearR S h (-1) with
    | none => exact ⟨_, rfl, rfl, true, rfl, iteT (kn e H1 e1)⟩
    | some m =>
      obtain ⟨hS, k, kx⟩ := ky m e
      refine ⟨_, rfl, rfl, false, rfl, iteF ?_⟩
      have dl := hS.dn
      rw [List.length_append] at dl
      have szl : (9000 : Nat) < sizeLine := by decide
      refine ⟨_, rfl, tb, a.dx, _, rfl, hD1.ob, rfl, _, rfl, tb, B, a.dx, _, _, rfl, hD1.ob, X.cls, X.nSigns, rfl, _, rfl, tb, B, a.dx, _, _, rfl, hD1.ob, X.cls, X.nOrder, rfl, _, rfl, tb, B, a.dx, _, _, rfl, hD1.ob, X.cls, X.nDeeds, rfl, _, rfl, _, rfl, by show 4 ≤ sizeLine; decide, fun p np => ⟨by show 1 ≤ sizeLine; decide, fun q nq => ?_⟩⟩
      have y1 := same_new (o := .tup [.int (h : Nat), .str "", nonN (some m), .bl true]) np
      have y2 := same_new (o := .lst [.ref p]) nq
      have hq : upd (upd H1 p (.tup [.int (h : Nat), .str "", nonN (some m), .bl true])) q (.lst [.ref p]) q = some (.lst [.ref p]) := upd_same
      have hp := y2 _ _ (upd_same (H := H1) (a := p) (o := .tup [.int (h : Nat), .str "", nonN (some m), .bl true]))
      have yy := same_trans y1 y2
      show rCat _ _ (upd (upd H1 p (.tup [.int (h : Nat), .str "", nonN (some m), .bl true])) q (.lst [.ref p])) _
      generalize upd (upd H1 p (.tup [.int (h : Nat), .str "", nonN (some m), .bl true])) q (.lst [.ref p]) = H2 at yy hq hp ⊢
      clear y1 y2
      have hD2 := hD1.same yy
      refine ⟨a.dl, q, _, _, rfl, rfl, hD2.de.lst, hq, by rw [List.length_map, hD.de.len]; simp at dl ⊢; omega, fun L nL => ?_⟩
      have y3 : ∀ {o : HO}, Same H2 (upd H2 L o) := same_new nL
      have em : a.da.map V.ref ++ [V.ref p] = (a.da ++ [p]).map V.ref := by rw [List.map_append]; rfl
      rw [em]
      have hL : upd H2 L (.lst ((a.da ++ [p]).map V.ref)) L = some (.lst ((a.da ++ [p]).map V.ref)) := upd_same
      have hp3 := y3 (o := .lst ((a.da ++ [p]).map V.ref)) _ _ hp
      have y3' := y3 (o := .lst ((a.da ++ [p]).map V.ref))
      generalize upd H2 L (.lst ((a.da ++ [p]).map V.ref)) = H3 at y3' hL hp3 ⊢
      have x3 : Same H H3 := same_trans x1 (same_trans yy y3')
      have hD3 := hD.same x3
      have e3 := same_ex x3 hT
      have nL0 : H L = none := same_old x1 (same_old yy nL)
      have hdl : DeedsAt H3 L (a.da ++ [p]) (S.deeds ++ [((h, ("" : Str), m, true) : Deed)]) := by
        refine ⟨hL, by rw [List.length_append, List.length_append, hD.de.len]; rfl, fun i t d h1 h2 => ?_⟩
        by_cases c : i < S.deeds.length
        · rw [List.getElem?_append_left c] at h2
          rw [List.getElem?_append_left (by rw [hD.de.len]; exact c)] at h1
          exact hD3.de.at_ i t d h1 h2
        · rw [List.getElem?_append_right (by omega)] at h2
          rw [List.getElem?_append_right (by rw [hD.de.len]; omega), hD.de.len] at h1
          have z : i - S.deeds.length = 0 := by have := (List.getElem?_eq_some_iff.mp h2).1; simp at this; omega
          rw [z] at h1 h2
          cases h1
          cases h2
          exact hp3
      have ou : ∀ c ∈ a.ud :: a.ua, c ≠ a.sg ∧ c ≠ a.od ∧ c ≠ L := fun c hc => by
        obtain ⟨h1, h2, _, _⟩ := hD.dj c (List.mem_cons_of_mem _ hc)
        refine ⟨h1, h2, ?_⟩
        rcases List.mem_cons.mp hc with e | e
        · rw [e]; exact ne_of_none hD.ud nL0
        · obtain ⟨i, hi⟩ := List.mem_iff_getElem?.mp e
          obtain ⟨l, hl⟩ := getP (xs := S.undone) (i := i) (by rw [← hD.ul]; exact (List.getElem?_eq_some_iff.mp hi).1)
          exact ne_of_none (hD.un i c l hi hl) nL0
      refine ⟨tb, a.sg, a.od, L, a, S, S.signs, S.order, S.deeds ++ [((h, ("" : Str), m, true) : Deed)], _, rfl, e3.tab, hD3, hD3.sg, hD3.od, hdl, ou, hS, fun pg th sp H4 nth nsp kk t4 o4 hD4 => ?_, fun pg H4 x4 => kx pg H4 (e3.trans x4)⟩
      replace k := k pg
      have hu : h < S.undone.length := by rw [← hO.hn]; exact hh
      refine ⟨small0, fun n nn => ⟨_, rfl, tb, B, _, _, _, rfl, by rw [upd_ne (ne_of_none hD4.ob nn)]; exact hD4.ob, X.cls, X.nUndone, rfl, _, rfl, a.ud, _, _, h, rfl, rfl, by rw [upd_ne (ne_of_none hD4.ud nn)]; exact hD4.ud, ixN_nat (by rw [List.length_map, hD4.ul]; exact hu), ?_⟩⟩
      have y5 := same_new (o := .lst []) nn
      have hn5 : upd H4 n (.lst []) n = some (.lst (nV [])) := upd_same
      have n4 : ∀ {c : Addr} {o : HO}, H4 c = some o → n ≠ c := fun h z => by rw [← z, nn] at h; cases h
      generalize upd H4 n (.lst []) = H5 at y5 hn5 ⊢
      have hD5 := hD4.same y5
      have eset : (a.ua.map V.ref).set h (V.ref n) = (a.ua.set h n).map V.ref := by rw [List.map_set]
      have nua : n ∉ a.ua := fun z => by
        obtain ⟨i, hi⟩ := List.mem_iff_getElem?.mp z
        obtain ⟨l, hl⟩ := getP (xs := S.undone) (i := i) (by rw [← hD.ul]; exact (List.getElem?_eq_some_iff.mp hi).1)
        exact n4 (hD4.un i n l hi hl) rfl
      have hD6 := hD5.und0 (h := h) (l := []) hn5 hu ⟨n4 hD4.sp, n4 hD4.ud, nua⟩ ⟨n4 hD4.sg, n4 hD4.od, n4 hD4.th, n4 hD4.de.lst⟩
      dsimp only
      rw [eset]
      have n0 : H n = none := same_old x3 (o4 n nn)
      refine k _ _ (by rfl) (fun c o h m nn2 => ?_) (fun c hc => ?_) (tabs_lst (same_ex y5 t4).tab hD5.ud) (fun b hb => same_old x3 (o4 b (same_old y5 (upd_old hD5.ud hb)))) hD6
      · rw [upd_ne (fun z => nn2 (by rw [z]; exact .inr (.inr (.inr (.inr (.inr (.inr (.inl rfl))))))))]
        exact y5 _ _ (kk c o (x3 c o h) m fun z => nn2 (.inl z))
      · rcases ownT_eq hc with z | z
        · rcases setA_own z with z | z | z | z | z | z
          · exact .inl z
          · exact .inl (z ▸ .inr (.inl rfl))
          · exact .inl (z ▸ .inr (.inr (.inl rfl)))
          · exact .inr (z ▸ same_old x3 nth)
          · exact .inr (z ▸ nL0)
          · exact .inr (z ▸ same_old x3 nsp)
        · rcases List.mem_or_eq_of_mem_set z with z | z
          · exact .inl (.inr (.inr (.inr (.inr (.inr (.inr (.inr z)))))))
          · exact .inr (z ▸ n0)
end
end TG


namespace TG
open PySem PySem.Spec PyProof.Rows L2 Gx
/-! ### list of a text -/
def sgS (z : Str) : List Str := z.cps.toList.map fun c => (⟨#[c]⟩ : Str)
def rListS : List V → Hp → VK → Prop := fun xs H Q => ∃ z : Str, xs = [.str z] ∧ z.length ≤ sizeLine ∧ ∀ l, H l = none → Q (.ref l) (upd H l (.lst (sV (sgS z))))
theorem call_list_txt {X : Cx} (hc : X.calm = true) : CallR X (.type "list") rListS := by
  intro pins s σ H xs us Q I r h
  obtain ⟨z, rfl, hz, q⟩ := h
  obtain ⟨u, rfl, rx⟩ := vals1 r
  obtain ⟨t, rfl⟩ := rx
  refine call_list_str (I.ok.hd hc) z t (fun h' tk acc' c' hk hS hacc => ?_) hz
  refine ⟨.ref s.heap.objs.size, upd H s.heap.objs.size (.lst (sV (sgS z))), I.laid hk (Nat.le_refl _) (show ObjOk X.prog X.w _ _ _ (.lst (sV (sgS z))) from ⟨?_, acc'.toList, c', ?_, ?_⟩), rfl, q _ (I.hok.fresh (Nat.le_refl _))⟩
  · unfold sV sgS
    rw [List.length_map, List.length_map, Array.length_toList]
    exact hz
  · refine vals_of_at (by unfold sV sgS; rw [List.length_map, List.length_map, Array.length_toList, Array.length_toList, hacc.1]) fun j x w h1 h2 => ?_
    obtain ⟨c, u, hcz, rfl⟩ := hacc.2 j w (by rw [← Array.getElem?_toList]; exact h2)
    have e2 : (sV (sgS z))[j]? = some (.str ⟨#[c]⟩) := by
      unfold sV sgS
      rw [List.getElem?_map, List.getElem?_map, Array.getElem?_toList, hcz]
      rfl
    rw [e2] at h1
    cases h1
    exact ⟨u, rfl⟩
  · simpa using hS
/-! ### a table's begin -/
def startR (z : Str) (n : Nat) : TSt := ⟨sgS z ++ [("" : Str)], List.range (z.length + 1), List.replicate (z.length + 1) true, [], List.replicate n 0, List.replicate n []⟩
structure TStp (B : Addr) (H0 : Hp) (tb dx : Addr) (fs : List (Str × V)) (H : Hp) : Prop where
  ob : H tb = some (.ins B dx fs)
  kp : ∀ c o, H0 c = some o → c ≠ tb → H c = some o
  old : ∀ b, H b = none → H0 b = none
section
variable {B tb dx : Addr} {H0 H : Hp} {fs fs' : List (Str × V)}
theorem TStp.new (o : TStp B H0 tb dx fs H) {p : Addr} {x : HO} (n : H p = none) : TStp B H0 tb dx fs (upd H p x) :=
  ⟨by rw [upd_ne (ne_of_none o.ob n)]; exact o.ob, fun c u h m => by rw [upd_ne (ne_of_none (o.kp c u h m) n)]; exact o.kp c u h m, fun b hb => o.old b (upd_none hb).1⟩
theorem TStp.put (o : TStp B H0 tb dx fs H) : TStp B H0 tb dx fs' (upd H tb (.ins B dx fs')) :=
  ⟨upd_same, fun c u h m => by rw [upd_ne m]; exact o.kp c u h m, fun b hb => o.old b (upd_old o.ob hb)⟩
theorem TStp.lst (o : TStp B H0 tb dx fs H) {c : Addr} {xs : List V} (h : H c = some (.lst xs)) : c ≠ tb := fun e => by rw [e, o.ob] at h; cases h
end
section
variable {P : Program} {w : World} {K : PySem.W.Frag} {mg : Str → Option Value} {base : Heap} {cs : List (Addr × Addr)} {B : Addr}
def spTInit (K : PySem.W.Frag) (cs : List (Addr × Addr)) (B : Addr) : Sp := fun vs H Q _ => ∃ (tb p st dx : Addr) (as : List Addr) (rows : List (List Str)) (gap least : Int) (n : Nat), vs = [.ref tb, .ref p, .ref st, .int (n : Nat)] ∧ Tabs cs H ∧ H tb = some (.ins B dx []) ∧ PageAt K H p as rows ∧ PgOk rows ∧ StyleAt K H st gap least ∧ 1 ≤ n ∧ n ≤ 4 ∧
  ∀ (a : TA) (H' : Hp), a.st = st → (∀ c o, H c = some o → NT cs c o → c ≠ tb → H' c = some o) → (∀ c, ownT tb a c → c = tb ∨ H c = none) → Tabs cs H' → (∀ b, H' b = none → H b = none) → TabD B H' tb a (startR (pageT rows) n) → Q .non H'
abbrev nmTInit : List Str := ["self", "page", "style", "hands", "text", "hand"]
theorem sc_tinit : FnScope nmTInit ["self", "page", "style", "hands"] (defScope (mth nTable 0)) := ⟨rfl, rfl, rfl, by decide +kernel, rfl, by decide +kernel, by decide +kernel⟩
theorem ok_tinit {f g1 g2 g3 : Addr} {fd fd1 fd2 fd3 : FuncData} (T : Txt mg) (X : TabC K B) (eM : ∃ t, mg "MOST_HANDS" = some (.int 4 t)) (F : Fun K "__init__" "Table.__init__" (mth nTable 0) f fd)
    (G1 : FnOk P w K mg base CX0 12 g1 fd1 ["page"] (spWrit K cs)) (k1 : PySem.W.keepIn K (.ref g1) = true) (b1 : Binds K fd1 ["page"] []) (m1 : mg "written" = some (.ref g1))
    (G2 : FnOk P w K mg base CX0 2 g2 fd2 ["style"] (spStyle K)) (k2 : PySem.W.keepIn K (.ref g2) = true) (b2 : Binds K fd2 ["style"] []) (m2 : mg "check_style" = some (.ref g2))
    (G3 : FnOk P w K mg base CX0 1 g3 fd3 ["value", "low", "high"] spWholeB) (k3 : PySem.W.keepIn K (.ref g3) = true) (b3 : Binds K fd3 ["value", "low", "high"] []) (m3 : mg "is_whole" = some (.ref g3)) : FnOk P w K mg base CX0 13 f fd ["self", "page", "style", "hands"] (spTInit K cs B) := by
  refine F.ok sc_tinit (fun vs H Q E h => ?_) (fun cdv A outer s H vs Q E hr h => ?_)
  · obtain ⟨tb, p, st, dx, as, rows, gap, least, n, rfl, _⟩ := h
    rfl
  · obtain ⟨tb, p, st, dx, as, rows, gap, least, n, rfl, hT, hob, hP, hO, hS, n1, n4, k⟩ := h
    obtain ⟨tM, eM⟩ := eM
    have nd := sc_tinit.nd
    have r2 : Room 2 _ := hr.mono (by decide)
    have r1 : Room 1 _ := hr.mono (by decide)
    refine ⟨_, pss_cons (ps_set (i := 4) nd rfl (.inl rfl) (pe_call G1 hr (by rfl) m1 k1 b1 .nil pass0 (pa_cons (pv 1) pa_nil)))
      (pss_cons (ps_expr (pe_call G2 r2 (by rfl) m2 k2 b2 .nil pass0 (pa_cons (pv 2) pa_nil)))
      (pss_cons (ps_if (pt_not (pt_val (pe_call G3 r1 (by rfl) m3 k3 b3 .nil pass0 (pa_cons (pv 3) (pa_cons pe_int (pa_cons (pe_glob (v := .int 4) rfl eM ⟨_, rfl⟩) pa_nil)))))) (pss_one ps_never) pss_nil)
      (pss_cons (ps_fld (pv 0) (pv 2) rfl)
      (pss_cons (ps_fld (pv 0) (pe_op op_cat (pe_callTy (call_list_txt rfl) (by rfl) T.list (by decide +kernel) (pa_cons (pv 4) pa_nil)) (pe_lst (pa_cons pe_str pa_nil))) rfl)
      (pss_cons (ps_fld (pv 0) (pe_listRg rfl (by rfl) T.list (prg_1 (by rfl) T.range (pe_callB call_len_seq (by rfl) T.len PySem.boot_len (pa_cons (pe_fld (pv 0) rfl) pa_nil)))) rfl)
      (pss_cons (ps_fld (pv 0) (pe_op op_rep (pe_lst (pa_cons pe_bl pa_nil)) (pe_callB call_len_seq (by rfl) T.len PySem.boot_len (pa_cons (pe_fld (pv 0) rfl) pa_nil))) rfl)
      (pss_cons (ps_fld (pv 0) (pe_lst pa_nil) rfl)
      (pss_cons (ps_fld (pv 0) (pe_op op_rep (pe_lst (pa_cons pe_int pa_nil)) (pv 3)) rfl)
      (pss_one (ps_fld (pv 0) (pe_lc (own := [("hand", 5)]) (g := gName 5) (tt := tYes) rfl nd (pi_range1 (by rfl) T.range (pa_cons (pv 3) pa_nil)) (blkOk_by (own := [("hand", 5)]) (N := nmTInit) (sc := defScope (mth nTable 0)) (by decide +kernel))
        (fun _ _ _ _ _ => pg_name (i := 5) nd rfl (Or.inl rfl)) (fun _ _ _ _ _ => pts_nil) (fun _ _ _ _ _ => pe_lst pa_nil)) rfl)))))))))), ?_⟩
    have zl := pageT_len hO
    have szl : (9000 : Nat) < sizeLine := by decide
    refine ⟨_, rfl, p, as, rows, rfl, hT, hP, hO, fun H1 x1 => ⟨_, rfl, st, gap, least, rfl, ⟨x1.sqT hS.tup, hS.g0, hS.g1, hS.l0, hS.l1⟩, ?_⟩⟩
    generalize hz : pageT rows = z at k zl ⊢
    have hob1 : H1 tb = some (.ins B dx []) := x1.ext _ _ hob fun ps q => by cases q
    refine ⟨_, rfl, _, _, _, rfl, true, by rw [decide_eq_true ⟨by omega, by omega⟩], iteF ?_⟩
    have A1 : TStp B H1 tb dx [] H1 := ⟨hob1, fun c o h _ => h, fun b hb => hb⟩
    have l0 : ((sgS z).length : Nat) = z.length := by unfold sgS; rw [List.length_map, Array.length_toList]; rfl
    -- style
    refine ⟨_, rfl, _, rfl, tb, B, dx, _, rfl, hob1, X.cls, X.nStyle, by show 0 < 1000; decide, ?_⟩
    have A2 := A1.put (fs' := putF "style" (.ref st) [])
    generalize upd H1 tb (.ins B dx (putF "style" (.ref st) [])) = H2 at A2 ⊢
    -- signs
    refine ⟨_, rfl, z, rfl, by omega, fun q1 nq1 => ⟨by show 1 ≤ sizeLine; decide, fun q2 nq2 => ?_⟩⟩
    have A3 := (A2.new (x := .lst (sV (sgS z))) nq1).new (x := .lst [V.str ""]) nq2
    have hq1 := same_new (o := .lst [V.str ""]) nq2 _ _ (upd_same (H := H2) (a := q1) (o := .lst (sV (sgS z))))
    have hq2 : upd (upd H2 q1 (.lst (sV (sgS z)))) q2 (.lst [V.str ""]) q2 = some (.lst [V.str ""]) := upd_same
    show rCat _ _ (upd (upd H2 q1 (.lst (sV (sgS z)))) q2 (.lst [V.str ""])) _
    generalize upd (upd H2 q1 (.lst (sV (sgS z)))) q2 (.lst [V.str ""]) = H3 at A3 hq1 hq2 ⊢
    have sl : (sV (sgS z)).length = z.length := by unfold sV; rw [List.length_map, l0]
    refine ⟨q1, q2, _, _, rfl, rfl, hq1, hq2, by rw [sl]; show z.length + 1 ≤ sizeLine; omega, fun sg nsg => ?_⟩
    have es : sV (sgS z) ++ [V.str ""] = sV (sgS z ++ [("" : Str)]) := by unfold sV; rw [List.map_append]; rfl
    rw [es]
    have A4 := A3.new (x := .lst (sV (sgS z ++ [("" : Str)]))) nsg
    refine ⟨_, rfl, tb, B, dx, _, rfl, A4.ob, X.cls, X.nSigns, by show 1 < 1000; decide, ?_⟩
    have hsg4 : upd H3 sg (.lst (sV (sgS z ++ [("" : Str)]))) sg = some (.lst (sV (sgS z ++ [("" : Str)]))) := upd_same
    have osg := A3.old sg nsg
    generalize upd H3 sg (.lst (sV (sgS z ++ [("" : Str)]))) = H4 at A4 hsg4 ⊢
    have A5 := A4.put (fs' := putF "signs" (.ref sg) (putF "style" (.ref st) []))
    have hsg5 : upd H4 tb (.ins B dx (putF "signs" (.ref sg) (putF "style" (.ref st) []))) sg = some (.lst (sV (sgS z ++ [("" : Str)]))) := by rw [upd_ne (A4.lst hsg4)]; exact hsg4
    generalize upd H4 tb (.ins B dx (putF "signs" (.ref sg) (putF "style" (.ref st) []))) = H5 at A5 hsg5 ⊢
    clear A1 A2 A3 A4 hq1 hq2 hsg4
    have sl1 : (sV (sgS z ++ [("" : Str)])).length = z.length + 1 := by unfold sV; rw [List.length_map, List.length_append, l0]; rfl
    -- order
    refine ⟨_, rfl, tb, B, dx, _, _, rfl, A5.ob, X.cls, X.nSigns, rfl, sg, _, rfl, .inl (SqL.of hsg5), _, rfl, ?_, fun od nod => ?_⟩
    · rw [sl1]
      exact ⟨by omega, by omega, by omega, by omega, by omega⟩
    have eo : rgV 0 (((sV (sgS z ++ [("" : Str)])).length : Nat) : Int) = nV (List.range (z.length + 1)) := by
      rw [sl1]
      unfold rgV nV
      have : ((((z.length + 1 : Nat) : Int)) - 0).toNat = z.length + 1 := by omega
      rw [this]
      refine List.map_congr_left fun i _ => ?_
      rw [Int.zero_add]
    rw [eo]
    have A6 := A5.new (x := .lst (nV (List.range (z.length + 1)))) nod
    refine ⟨_, rfl, tb, B, dx, _, rfl, A6.ob, X.cls, X.nOrder, by show 2 < 1000; decide, ?_⟩
    have ood := A5.old od nod
    have hod6 : upd H5 od (.lst (nV (List.range (z.length + 1)))) od = some (.lst (nV (List.range (z.length + 1)))) := upd_same
    have hsg6 := same_new (o := .lst (nV (List.range (z.length + 1)))) nod _ _ hsg5
    generalize upd H5 od (.lst (nV (List.range (z.length + 1)))) = H6 at A6 hod6 hsg6 ⊢
    have A7 := A6.put (fs' := putF "order" (.ref od) (putF "signs" (.ref sg) (putF "style" (.ref st) [])))
    have pk : ∀ {c : Addr} {xs : List V}, H6 c = some (.lst xs) → upd H6 tb (.ins B dx (putF "order" (.ref od) (putF "signs" (.ref sg) (putF "style" (.ref st) [])))) c = some (.lst xs) := fun h => by rw [upd_ne (A6.lst h)]; exact h
    have hod7 := pk hod6
    have hsg7 := pk hsg6
    generalize upd H6 tb (.ins B dx (putF "order" (.ref od) (putF "signs" (.ref sg) (putF "style" (.ref st) [])))) = H7 at A7 hod7 hsg7 ⊢
    clear pk A5 A6 hod6 hsg6 hsg5
    -- there
    refine ⟨by show 1 ≤ sizeLine; decide, fun q3 nq3 => ⟨_, rfl, tb, B, dx, _, _, rfl, (A7.new nq3).ob, X.cls, X.nSigns, rfl, sg, _, rfl, .inl (SqL.of (same_new nq3 _ _ hsg7)), q3, _, _, rfl, rfl, upd_same, by omega, by rw [sl1]; omega, by rw [sl1]; show 1 * (((z.length + 1 : Nat) : Int)).toNat ≤ sizeLine; omega, fun th nth => ?_⟩⟩
    have et : (List.replicate (((sV (sgS z ++ [("" : Str)])).length : Nat) : Int).toNat [V.bl true]).flatten = bV (List.replicate (z.length + 1) true) := by
      rw [sl1]
      simp [bV]
    rw [et]
    have A8 := (A7.new (x := .lst [V.bl true]) nq3).new (x := .lst (bV (List.replicate (z.length + 1) true))) nth
    have ss8 : Same H7 (upd (upd H7 q3 (.lst [V.bl true])) th (.lst (bV (List.replicate (z.length + 1) true)))) := same_trans (same_new nq3) (same_new nth)
    have hth8 : upd (upd H7 q3 (.lst [V.bl true])) th (.lst (bV (List.replicate (z.length + 1) true))) th = some (.lst (bV (List.replicate (z.length + 1) true))) := upd_same
    have oth := A7.old th (same_old (same_new nq3) nth)
    refine ⟨_, rfl, tb, B, dx, _, rfl, A8.ob, X.cls, X.nThere, by show 3 < 1000; decide, ?_⟩
    have hod8 := ss8 _ _ hod7
    have hsg8 := ss8 _ _ hsg7
    generalize upd (upd H7 q3 (.lst [V.bl true])) th (.lst (bV (List.replicate (z.length + 1) true))) = H8 at A8 hth8 hod8 hsg8 ⊢
    have A9 := A8.put (fs' := putF "there" (.ref th) (putF "order" (.ref od) (putF "signs" (.ref sg) (putF "style" (.ref st) []))))
    have pk : ∀ {c : Addr} {xs : List V}, H8 c = some (.lst xs) → upd H8 tb (.ins B dx (putF "there" (.ref th) (putF "order" (.ref od) (putF "signs" (.ref sg) (putF "style" (.ref st) []))))) c = some (.lst xs) := fun h => by rw [upd_ne (A8.lst h)]; exact h
    have hod9 := pk hod8
    have hsg9 := pk hsg8
    have hth9 := pk hth8
    generalize upd H8 tb (.ins B dx (putF "there" (.ref th) (putF "order" (.ref od) (putF "signs" (.ref sg) (putF "style" (.ref st) []))))) = H9 at A9 hod9 hsg9 hth9 ⊢
    clear pk A7 A8 ss8 hod8 hsg8 hth8 hod7 hsg7
    -- deeds
    refine ⟨small0, fun dl ndl => ?_⟩
    have A10 := A9.new (x := .lst []) ndl
    have odl := A9.old dl ndl
    have hdl10 : upd H9 dl (.lst []) dl = some (.lst (([] : List Addr).map V.ref)) := upd_same
    have hod10 := same_new (o := .lst []) ndl _ _ hod9
    have hsg10 := same_new (o := .lst []) ndl _ _ hsg9
    have hth10 := same_new (o := .lst []) ndl _ _ hth9
    refine ⟨_, rfl, tb, B, dx, _, rfl, A10.ob, X.cls, X.nDeeds, by show 4 < 1000; decide, ?_⟩
    generalize upd H9 dl (.lst []) = H10 at A10 hdl10 hod10 hsg10 hth10 ⊢
    have A11 := A10.put (fs' := putF "deeds" (.ref dl) (putF "there" (.ref th) (putF "order" (.ref od) (putF "signs" (.ref sg) (putF "style" (.ref st) [])))))
    have pk : ∀ {c : Addr} {xs : List V}, H10 c = some (.lst xs) → upd H10 tb (.ins B dx (putF "deeds" (.ref dl) (putF "there" (.ref th) (putF "order" (.ref od) (putF "signs" (.ref sg) (putF "style" (.ref st) [])))))) c = some (.lst xs) := fun h => by rw [upd_ne (A10.lst h)]; exact h
    have hod11 := pk hod10
    have hsg11 := pk hsg10
    have hth11 := pk hth10
    have hdl11 := pk hdl10
    generalize upd H10 tb (.ins B dx (putF "deeds" (.ref dl) (putF "there" (.ref th) (putF "order" (.ref od) (putF "signs" (.ref sg) (putF "style" (.ref st) [])))))) = H11 at A11 hod11 hsg11 hth11 hdl11 ⊢
    clear pk A9 A10 hod10 hsg10 hth10 hdl10 hod9 hsg9 hth9
    -- spots
    refine ⟨by show 1 ≤ sizeLine; decide, fun q4 nq4 => ⟨_, rfl, q4, _, _, rfl, rfl, upd_same, by omega, by omega, by show 1 * (((n : Nat) : Int)).toNat ≤ sizeLine; omega, fun sp nsp => ?_⟩⟩
    have ep : (List.replicate (((n : Nat) : Int)).toNat [V.int 0]).flatten = nV (List.replicate n 0) := by simp [nV]
    rw [ep]
    have A12 := (A11.new (x := .lst [V.int 0]) nq4).new (x := .lst (nV (List.replicate n 0))) nsp
    have ss12 : Same H11 (upd (upd H11 q4 (.lst [V.int 0])) sp (.lst (nV (List.replicate n 0)))) := same_trans (same_new nq4) (same_new nsp)
    have hsp12 : upd (upd H11 q4 (.lst [V.int 0])) sp (.lst (nV (List.replicate n 0))) sp = some (.lst (nV (List.replicate n 0))) := upd_same
    have nsp11 : H11 sp = none := same_old (same_new nq4) nsp
    have osp := A11.old sp nsp11
    have spn : ∀ {c : Addr} {o : HO}, H11 c = some o → sp ≠ c := fun h e => by rw [← e, nsp11] at h; cases h
    have dsp : sp ≠ sg ∧ sp ≠ od ∧ sp ≠ th ∧ sp ≠ dl := ⟨spn hsg11, spn hod11, spn hth11, spn hdl11⟩
    refine ⟨_, rfl, tb, B, dx, _, rfl, A12.ob, X.cls, X.nSpots, by show 5 < 1000; decide, ?_⟩
    have hod12 := ss12 _ _ hod11
    have hsg12 := ss12 _ _ hsg11
    have hth12 := ss12 _ _ hth11
    have hdl12 := ss12 _ _ hdl11
    generalize upd (upd H11 q4 (.lst [V.int 0])) sp (.lst (nV (List.replicate n 0))) = H12 at A12 hsp12 hod12 hsg12 hth12 hdl12 ⊢
    have A13 := A12.put (fs' := putF "spots" (.ref sp) (putF "deeds" (.ref dl) (putF "there" (.ref th) (putF "order" (.ref od) (putF "signs" (.ref sg) (putF "style" (.ref st) []))))))
    have pk : ∀ {c : Addr} {xs : List V}, H12 c = some (.lst xs) → upd H12 tb (.ins B dx (putF "spots" (.ref sp) (putF "deeds" (.ref dl) (putF "there" (.ref th) (putF "order" (.ref od) (putF "signs" (.ref sg) (putF "style" (.ref st) []))))))) c = some (.lst xs) := fun h => by rw [upd_ne (A12.lst h)]; exact h
    have hod13 := pk hod12
    have hsg13 := pk hsg12
    have hth13 := pk hth12
    have hdl13 := pk hdl12
    have hsp13 := pk hsp12
    generalize upd H12 tb (.ins B dx (putF "spots" (.ref sp) (putF "deeds" (.ref dl) (putF "there" (.ref th) (putF "order" (.ref od) (putF "signs" (.ref sg) (putF "style" (.ref st) []))))))) = H13 at A13 hod13 hsg13 hth13 hdl13 hsp13 ⊢
    clear pk A11 A12 ss12 hod12 hsg12 hth12 hdl12 hsp12 hod11 hsg11 hth11 hdl11 spn nsp11
    -- undone
    refine ⟨_, rfl, _, rfl, by omega, by omega, fun D nD => ?_⟩
    refine lc_range (n := n) (fun i H' => Same H13 H' ∧ ∃ ua : List Addr, H' D = some (.lst (ua.map V.ref)) ∧ ua.length = i ∧ ua.Nodup ∧ ∀ u ∈ ua, H' u = some (.lst []) ∧ H13 u = none ∧ u ≠ D) ⟨same_new nD, [], upd_same, rfl, List.nodup_nil, fun u hu => by cases hu⟩ ?_ ?_
    · rintro i H' hi ⟨x, ua, w1, w2, w3, w4⟩
      refine ⟨rfl, small0, fun u nu => ?_⟩
      have nuD : u ≠ D := fun e => by rw [e, w1] at nu; cases nu
      have nu13 := same_old x nu
      have y := same_new (o := .lst []) nu
      refine ⟨_, y _ _ w1, by rw [List.length_map]; omega, same_upd (same_trans x y) nD, ua ++ [u], by rw [upd_same, List.map_append]; rfl, by rw [List.length_append, w2]; rfl, ?_, fun v hv => ?_⟩
      · rw [List.nodup_append]
        refine ⟨w3, by simp, fun a ha b hb => ?_⟩
        rw [List.mem_singleton] at hb
        rw [hb]
        exact fun e => by have := (w4 a ha).1; rw [e, nu] at this; cases this
      · rcases List.mem_append.mp hv with h | h
        · obtain ⟨a1, a2, a3⟩ := w4 v h
          exact ⟨by rw [upd_ne a3]; exact y _ _ a1, a2, a3⟩
        · rw [List.mem_singleton] at h
          subst h
          exact ⟨by rw [upd_ne nuD, upd_same], nu13, nuD⟩
    · rintro H14 ⟨x, ua, w1, w2, w3, w4⟩
      have A14 : TStp B H1 tb dx _ H14 := ⟨x _ _ A13.ob, fun c o h m => x _ _ (A13.kp c o h m), fun b hb => A13.old b (same_old x hb)⟩
      refine ⟨_, rfl, tb, B, dx, _, rfl, A14.ob, X.cls, X.nUndone, by show 6 < 1000; decide, ?_⟩
      have A15 := A14.put (fs' := putF "undone" (.ref D) (putF "spots" (.ref sp) (putF "deeds" (.ref dl) (putF "there" (.ref th) (putF "order" (.ref od) (putF "signs" (.ref sg) (putF "style" (.ref st) [])))))))
      have pk : ∀ {c : Addr} {xs : List V}, H14 c = some (.lst xs) → upd H14 tb (.ins B dx (putF "undone" (.ref D) (putF "spots" (.ref sp) (putF "deeds" (.ref dl) (putF "there" (.ref th) (putF "order" (.ref od) (putF "signs" (.ref sg) (putF "style" (.ref st) [])))))))) c = some (.lst xs) := fun h => by rw [upd_ne (A14.lst h)]; exact h
      have hod := pk (x _ _ hod13)
      have hsg := pk (x _ _ hsg13)
      have hth := pk (x _ _ hth13)
      have hdl := pk (x _ _ hdl13)
      have hsp := pk (x _ _ hsp13)
      have hD := pk w1
      have hua : ∀ u ∈ ua, _ := fun u hu => pk (w4 u hu).1
      generalize upd H14 tb (.ins B dx (putF "undone" (.ref D) (putF "spots" (.ref sp) (putF "deeds" (.ref dl) (putF "there" (.ref th) (putF "order" (.ref od) (putF "signs" (.ref sg) (putF "style" (.ref st) [])))))))) = H15 at A15 hod hsg hth hdl hsp hD hua ⊢
      have nn : ∀ {c d : Addr} {o : HO}, H13 d = none → H13 c = some o → d ≠ c := fun h1 h2 e => by rw [e, h2] at h1; cases h1
      have on : ∀ {b : Addr}, H13 b = none → H b = none := fun h => x1.old _ (A13.old _ h)
      refine k ⟨dx, st, sg, od, th, dl, sp, D, [], ua⟩ H15 rfl (fun c o h m n => A15.kp c o (x1.any h m) n) (fun c hc => ?_) ?_ (fun b hb => x1.old b (A15.old b hb)) ⟨A15.ob, hsg, hod, hth, ⟨hdl, rfl, fun i t d h _ => by cases h⟩, hsp, hD, ?_, fun i u l h1 h2 => ?_, ?_, fun c hc => ?_⟩
      · rcases hc with e | e | e | e | e | e | e | e
        · exact .inl e
        · exact .inr (e ▸ x1.old _ osg)
        · exact .inr (e ▸ x1.old _ ood)
        · exact .inr (e ▸ x1.old _ oth)
        · exact .inr (e ▸ x1.old _ odl)
        · exact .inr (e ▸ x1.old _ osp)
        · exact .inr (e ▸ on nD)
        · exact .inr (on (w4 c e).2.1)
      · intro q hq
        obtain ⟨ps', h1, h2⟩ := x1.tab q hq
        exact ⟨ps', A15.kp _ _ h1 (fun e => by rw [e, hob1] at h1; cases h1), h2⟩
      · show ua.length = (List.replicate n ([] : List Nat)).length
        rw [w2, List.length_replicate]
      · have h2 : (List.replicate n ([] : List Nat))[i]? = some l := h2
        have : l = [] := by
          rw [List.getElem?_replicate] at h2
          split at h2
          · cases h2; rfl
          · cases h2
        rw [this]
        exact hua u (List.mem_of_getElem? h1)
      · show (sp :: D :: ua).Nodup
        rw [List.nodup_cons, List.mem_cons, List.nodup_cons]
        refine ⟨fun e => ?_, fun e => (w4 D e).2.2 rfl, w3⟩
        rcases e with e | e
        · exact nn nD hsp13 e.symm
        · exact nn (w4 sp e).2.1 hsp13 rfl
      · have hc : c ∈ sp :: D :: ua := hc
        have g : H13 c = none → c ≠ sg ∧ c ≠ od ∧ c ≠ th ∧ c ≠ dl := fun h => ⟨nn h hsg13, nn h hod13, nn h hth13, nn h hdl13⟩
        rcases List.mem_cons.mp hc with e | e
        · rw [e]; exact dsp
        · rcases List.mem_cons.mp e with e | e
          · exact g (by rw [e]; exact nD)
          · exact g (w4 c e).2.1
end
end TG


namespace TG
open PySem PySem.Spec PyProof.Rows L2 NdefX GenW Gx Lv
/-! ### press -/
theorem vstr_ne' {a b : Str} : (!decide (V.str a = V.str b)) = decide (a ≠ b) := by simp
def MarkOk (z : Str) : Prop := z = tabS ∨ z = lineS ∨ ∃ c, z = ⟨#[c]⟩ ∧ SgOk c
theorem MarkOk.len {z : Str} (h : MarkOk z) : z.length = 1 := by
  rcases h with h | h | ⟨c, h, _⟩
  · rw [h]; decide +kernel
  · rw [h]; decide +kernel
  · rw [h]; rfl
def ordP (S : TSt) (h : Nat) : List Nat := S.order.take (S.order.idxOf (S.spots.getD h 0)) ++ [S.signs.length] ++ S.order.drop (S.order.idxOf (S.spots.getD h 0))
def deedP (S : TSt) (h : Nat) (z : Str) : List Deed := S.deeds ++ [((h, z, S.signs.length, true) : Deed)]
def pressR (S : TSt) (h : Nat) (z : Str) : TSt := { settleR S (S.signs ++ [z]) (ordP S h) (deedP S h z) with undone := S.undone.set h [] }
section
variable {P : Program} {w : World} {K : PySem.W.Frag} {mg : Str → Option Value} {base : Heap} {cs : List (Addr × Addr)} {B C G : Addr}
def spFilled (cs : List (Addr × Addr)) : Sp := fun vs H Q _ => ∃ (z : Str) (m : Int), vs = [.str z, .int m] ∧ Tabs cs H ∧ (z.length : Int) ≤ m ∧ z.length ≤ 1000 ∧ (∀ c ∈ z.cps.toList, SgOk c) ∧ z ≠ ("" : Str) ∧ ∀ H', Ex cs H H' → Q (.bl true) H'
theorem sc_filled : FnScope ["value", "most"] ["value", "most"] (defScope s_filled) := ⟨rfl, rfl, rfl, by decide +kernel, rfl, by decide +kernel, by decide +kernel⟩
theorem ok_filled {f g : Addr} {fd fdg : FuncData} (F : Fun K "is_filled" "is_filled" s_filled f fd)
    (W : FnOk P w K mg base CX0 5 g fdg ["value", "most"] (spText cs)) (kp : PySem.W.keepIn K (.ref g) = true) (bd : Binds K fdg ["value", "most"] []) (mgg : mg "is_text_of_signs" = some (.ref g)) : FnOk P w K mg base CX0 6 f fd ["value", "most"] (spFilled cs) := by
  refine F.ok sc_filled (fun vs H Q E h => ?_) (fun cdv A outer s H vs Q E hr h => ?_)
  · obtain ⟨z, m, rfl, _⟩ := h
    rfl
  · obtain ⟨z, m, rfl, hT, h1, h2, h3, hn, k⟩ := h
    refine ⟨_, pss_one (ps_ret (pe_and (pe_call W hr (by rfl) mgg kp bd .nil pass0 (pa_cons (pv 0) (pa_cons (pv 1) pa_nil))) (pe_one (pe_cmpR op_ne (pv 0) pe_str (nomark _))))), ?_⟩
    refine ⟨_, rfl, _, rfl, z, m, rfl, hT, h1, h2, h3, fun H1 x1 => ⟨true, rfl, iteT ⟨_, rfl, rfl, ?_⟩⟩⟩
    rw [vstr_ne', decide_eq_true hn]
    exact k H1 x1
def spMark (cs : List (Addr × Addr)) : Sp := fun vs H Q _ => ∃ z : Str, vs = [.str z] ∧ Tabs cs H ∧ MarkOk z ∧ ∀ H', Ex cs H H' → Q .non H'
theorem sc_cmark : FnScope ["sign"] ["sign"] (defScope s_check_mark) := ⟨rfl, rfl, rfl, by decide +kernel, rfl, by decide +kernel, by decide +kernel⟩
theorem ok_cmark {f g : Addr} {fd fdg : FuncData} (eT : ∃ t, mg "TAB" = some (.str tabS t)) (eL : ∃ t, mg "LINE_END" = some (.str lineS t)) (F : Fun K "check_mark" "check_mark" s_check_mark f fd)
    (W : FnOk P w K mg base CX0 6 g fdg ["value", "most"] (spFilled cs)) (kp : PySem.W.keepIn K (.ref g) = true) (bd : Binds K fdg ["value", "most"] []) (mgg : mg "is_filled" = some (.ref g)) : FnOk P w K mg base CX0 7 f fd ["sign"] (spMark cs) := by
  refine F.ok sc_cmark (fun vs H Q E h => ?_) (fun cdv A outer s H vs Q E hr h => ?_)
  · obtain ⟨z, rfl, _⟩ := h
    rfl
  · obtain ⟨z, rfl, hT, hz, k⟩ := h
    obtain ⟨tt, eT⟩ := eT
    obtain ⟨tl, eL⟩ := eL
    refine ⟨_, pss_one (ps_if (PW.pt (pw_and (pt_cmpR op_ne (pv 0) (pe_glob (v := .str tabS) rfl eT ⟨_, rfl⟩) (nomark _)) (pw_and (pt_cmpR op_ne (pv 0) (pe_glob (v := .str lineS) rfl eL ⟨_, rfl⟩) (nomark _)) (pw_and1 (pt_not (pt_val (pe_call W hr (by rfl) mgg kp bd .nil pass0 (pa_cons (pv 0) (pa_cons pe_int pa_nil)))))))))
      (pss_one ps_never) pss_nil), ?_⟩
    refine ⟨_, rfl, rfl, _, rfl, ?_⟩
    rw [vstr_ne']
    by_cases h : z = tabS
    · rw [decide_eq_false (by simp [h])]
      exact iteF (iteF (k H (Ex.refl hT)))
    · rw [decide_eq_true h]
      refine iteT ⟨_, rfl, rfl, _, rfl, ?_⟩
      rw [vstr_ne']
      by_cases h2 : z = lineS
      · rw [decide_eq_false (by simp [h2])]
        exact iteF (iteF (k H (Ex.refl hT)))
      · rw [decide_eq_true h2]
        obtain ⟨c, rfl, hc⟩ : ∃ c, z = ⟨#[c]⟩ ∧ SgOk c := by
          rcases hz with q | q | q
          · exact absurd q h
          · exact absurd q h2
          · exact q
        refine iteT ⟨_, rfl, _, _, rfl, hT, by show ((1 : Nat) : Int) ≤ 1; omega, by show 1 ≤ 1000; omega, fun d hd => ?_, fun e => ?_, fun H1 x1 => ⟨true, rfl, iteF (k H1 x1)⟩⟩
        · have hd : d ∈ [c] := hd
          rw [List.mem_singleton] at hd
          rw [hd]
          exact hc
        · have : (⟨#[c]⟩ : Str).length = ("" : Str).length := by rw [e]
          have e0 : ("" : Str).length = 0 := by decide +kernel
          rw [e0] at this
          cases this
def spPressT (cs : List (Addr × Addr)) (B TM : Addr) : Sp := fun vs H Q E => ∃ (tb : Addr) (h : Nat) (z : Str) (a : TA) (S : TSt), vs = [.ref tb, .int (h : Nat), .str z] ∧ Tabs cs H ∧ TabD B H tb a S ∧ TOk S ∧ h < S.spots.length ∧ MarkOk z ∧
  SetPre S (S.signs ++ [z]) (ordP S h) (deedP S h z) ∧
  (PgOk (pageR (S.signs ++ [z]) (ordP S h) (deedP S h z)) → Went cs B H tb a (pressR S h z) fun H' => Q .non H') ∧
  (¬ PgOk (pageR (S.signs ++ [z]) (ordP S h) (deedP S h z)) → ∀ H', Ex cs H H' → E (.ref TM) none H')
abbrev nmPressT : List Str := ["self", "hand", "sign", "mark", "order"]
theorem sc_press : FnScope nmPressT ["self", "hand", "sign"] (defScope (mth nTable 1)) := ⟨rfl, rfl, rfl, by decide +kernel, rfl, by decide +kernel, by decide +kernel⟩
theorem ok_pressT {TM : Addr} {f g1 g2 g3 : Addr} {fd fd1 fd2 fd3 : FuncData} (T : Txt mg) (X : TabC K B) (F : Fun K "press" "Table.press" (mth nTable 1) f fd)
    (M1 : Meth K B "check_hand" g1) (G1 : FnOk P w K mg base CX0 2 g1 fd1 ["self", "hand"] (spHand B)) (b1 : Binds K fd1 ["self", "hand"] [])
    (G2 : FnOk P w K mg base CX0 7 g2 fd2 ["sign"] (spMark cs)) (k2 : PySem.W.keepIn K (.ref g2) = true) (b2 : Binds K fd2 ["sign"] []) (m2 : mg "check_mark" = some (.ref g2))
    (M3 : Meth K B "settle" g3) (G3 : FnOk P w K mg base (L2.CX P w) 11 g3 fd3 ["self", "signs", "order", "deeds"] (spSettle cs B TM)) (b3 : Binds K fd3 ["self", "signs", "order", "deeds"] []) : FnOk P w K mg base (L2.CX P w) 12 f fd ["self", "hand", "sign"] (spPressT cs B TM) := by
  refine F.okX sc_press (fun vs H Q E h => ?_) (fun cdv A outer s H vs Q E hr h => ?_)
  · obtain ⟨tb, h, z, a, S, rfl, _⟩ := h
    rfl
  · obtain ⟨tb, h, z, a, S, rfl, hT, hD, hO, hh, hz, hS, k, kx⟩ := h
    have nd := sc_press.nd
    have r2 : Room 2 _ := hr.mono (by decide)
    have r7 : Room 7 _ := hr.mono (by decide)
    refine ⟨_, pss_cons (ps_expr (pe_meth (pv 0) X.cls M1 G1 r2 b1 .nil pass0 (pa_cons (pv 1) pa_nil)))
      (pss_cons (ps_expr (pe_call G2 r7 (by rfl) m2 k2 b2 .nil pass0 (pa_cons (pv 2) pa_nil)))
      (pss_cons (ps_set (i := 3) nd rfl (.inl rfl) (pe_callB call_len_seq (by rfl) T.len PySem.boot_len (pa_cons (pe_fld (pv 0) rfl) pa_nil)))
      (pss_cons (ps_set (i := 4) nd rfl (.inl rfl) (pe_callTy call_list_of (by rfl) T.list (by decide +kernel) (pa_cons (pe_fld (pv 0) rfl) pa_nil)))
      (pss_cons (ps_expr (pe_bm PySem.F.plainAttrs_list PySem.F.slot_list_insert PySem.F.type_list_insert mt_insert (pv 4) (pa_cons (pe_bm PySem.F.plainAttrs_list PySem.F.slot_list_index PySem.F.type_list_index mt_index (pv 4) (pa_cons (pe_ix ix_list (pe_fld (pv 0) rfl) (pv 1) (fun _ _ => rfl)) pa_nil)) (pa_cons (pv 3) pa_nil))))
      (pss_cons (ps_expr (pe_methS (pv 0) X.cls M3 G3 hr b3 (fun σ => passAt (takes_of rfl rfl rfl rfl) σ) (pa_cons (pe_op op_cat (pe_fld (pv 0) rfl) (pe_lst (pa_cons (pv 2) pa_nil))) (pa_cons (pv 4) (pa_cons (pe_op op_cat (pe_fld (pv 0) rfl) (pe_lst (pa_cons (pe_tup (pa_cons (pv 1) (pa_cons (pv 2) (pa_cons (pv 3) (pa_cons pe_bl pa_nil))))) pa_nil))) pa_nil)))))
      (pss_one (ps_asg (pe_lst pa_nil) (pg_sub (pe_fld (pv 0) rfl) (pv 1) set_list)))))))), ?_⟩
    refine ⟨_, rfl, tb, a.dx, _, rfl, hD.ob, rfl, _, rfl, tb, h, a, S, rfl, hD, hh, ?_⟩
    refine ⟨_, rfl, z, rfl, hT, hz, fun H1 e1 => ?_⟩
    have hD1 := hD.gw e1.ext
    refine ⟨_, rfl, tb, B, a.dx, _, _, rfl, hD1.ob, X.cls, X.nSigns, rfl, a.sg, _, rfl, .inl (SqL.of hD1.sg), ?_⟩
    refine ⟨_, rfl, tb, B, a.dx, _, _, rfl, hD1.ob, X.cls, X.nOrder, rfl, a.od, _, rfl, .inl (SqL.of hD1.od), fun O nO => ?_⟩
    have x2 : ∀ {o : HO}, Same H1 (upd H1 O o) := same_new nO
    have hs := getD_spot hh
    have mo : S.spots.getD h 0 ∈ S.order := by
      have := hO.sp _ (List.mem_of_getElem? hs)
      exact (List.mem_filter.mp this).1
    obtain ⟨g1', g2', g3'⟩ := idx_nat mo
    have ol := hO.ol
    have szl : (9000 : Nat) < sizeLine := by decide
    refine ⟨_, rfl, .inl ⟨rfl, _, SqL.of upd_same⟩, _, rfl, .inl ⟨rfl, _, SqL.of upd_same⟩, _, rfl, tb, B, a.dx, _, _, rfl, x2 _ _ hD1.ob, X.cls, X.nSpots, rfl, _, rfl, a.sp, _, _, _, rfl, rfl, SqL.of (x2 _ _ hD1.sp), atI_nat (nV_get hs), O, nV S.order, .int (S.spots.getD h 0 : Nat), S.order.idxOf (S.spots.getD h 0), .int (S.spots.getD h 0 : Nat), rfl, rfl, SqL.of upd_same, rfl, ints_flat _, nV_get g1', by simp [eqV], ints_no g3', _, rfl, O, nV S.order, _, _, rfl, rfl, upd_same, by rw [nV_len]; omega, by omega, by omega, ?_⟩
    rw [upd_upd]
    have eo : (nV S.order).take ((S.order.idxOf (S.spots.getD h 0) : Nat) : Int).toNat ++ [V.int (((sV S.signs).length : Nat) : Int)] ++ (nV S.order).drop ((S.order.idxOf (S.spots.getD h 0) : Nat) : Int).toNat = nV (ordP S h) := by
      unfold ordP nV sV
      rw [Int.toNat_natCast, List.map_append, List.map_append, List.map_take, List.map_drop, List.length_map]
      rfl
    rw [eo]
    have hO2 : upd H1 O (.lst (nV (ordP S h))) O = some (.lst (nV (ordP S h))) := upd_same
    have x2 := x2 (o := .lst (nV (ordP S h)))
    generalize upd H1 O (.lst (nV (ordP S h))) = H2 at x2 hO2 ⊢
    have hD2 := hD1.same x2
    have sm := hS.many
    rw [List.length_append] at sm
    have sm : S.signs.length + 1 ≤ 9000 := sm
    have dl : S.deeds.length + 1 ≤ 9000 := by have := hS.dn; unfold deedP at this; rw [List.length_append] at this; exact this
    refine ⟨_, rfl, tb, a.dx, _, rfl, hD2.ob, rfl, _, rfl, tb, B, a.dx, _, _, rfl, hD2.ob, X.cls, X.nSigns, rfl, _, rfl, by show 1 ≤ sizeLine; decide, fun q nq => ⟨a.sg, q, _, _, rfl, rfl, same_new nq _ _ hD2.sg, upd_same, by rw [List.length_map]; show S.signs.length + 1 ≤ sizeLine; omega, fun L1 nL1 => ?_⟩⟩
    have es : sV S.signs ++ [V.str z] = sV (S.signs ++ [z]) := by simp [sV]
    rw [es]
    have hL1 : upd (upd H2 q (.lst [V.str z])) L1 (.lst (sV (S.signs ++ [z]))) L1 = some (.lst (sV (S.signs ++ [z]))) := upd_same
    have x3 := same_trans (same_new (o := .lst [V.str z]) nq) (same_new (o := .lst (sV (S.signs ++ [z]))) nL1)
    have nL10 : H2 L1 = none := same_old (same_new nq) nL1
    generalize upd (upd H2 q (.lst [V.str z])) L1 (.lst (sV (S.signs ++ [z]))) = H3 at x3 hL1 ⊢
    have hD3 := hD2.same x3
    refine ⟨_, rfl, _, rfl, tb, B, a.dx, _, _, rfl, hD3.ob, X.cls, X.nDeeds, rfl, _, rfl, _, rfl, _, rfl, by show 4 ≤ sizeLine; decide, fun p np => ⟨by show 1 ≤ sizeLine; decide, fun q2 nq2 => ?_⟩⟩
    have el : (((sV S.signs).length : Nat) : Int) = ((S.signs.length : Nat) : Int) := by unfold sV; rw [List.length_map]
    have y1 := same_new (o := .tup [.int (h : Nat), .str z, .int ((sV S.signs).length : Nat), .bl true]) np
    have y2 := same_new (o := .lst [.ref p]) nq2
    have hq2 : upd (upd H3 p (.tup [.int (h : Nat), .str z, .int ((sV S.signs).length : Nat), .bl true])) q2 (.lst [.ref p]) q2 = some (.lst [.ref p]) := upd_same
    have hp : upd (upd H3 p (.tup [.int (h : Nat), .str z, .int ((sV S.signs).length : Nat), .bl true])) q2 (.lst [.ref p]) p = some (.tup (dV (h, z, S.signs.length, true))) := by
      rw [y2 _ _ (upd_same (H := H3) (a := p)), el]
      rfl
    have yy := same_trans y1 y2
    show rCat _ _ (upd (upd H3 p (.tup [.int (h : Nat), .str z, .int ((sV S.signs).length : Nat), .bl true])) q2 (.lst [.ref p])) _
    generalize upd (upd H3 p (.tup [.int (h : Nat), .str z, .int ((sV S.signs).length : Nat), .bl true])) q2 (.lst [.ref p]) = H4 at yy hq2 hp ⊢
    clear y1 y2
    have hD4 := hD3.same yy
    refine ⟨a.dl, q2, _, _, rfl, rfl, hD4.de.lst, hq2, by rw [List.length_map, hD.de.len]; show S.deeds.length + 1 ≤ sizeLine; omega, fun L3 nL3 => ?_⟩
    have em : a.da.map V.ref ++ [V.ref p] = (a.da ++ [p]).map V.ref := by rw [List.map_append]; rfl
    rw [em]
    have y3 := same_new (o := .lst ((a.da ++ [p]).map V.ref)) nL3
    have hL3 : upd H4 L3 (.lst ((a.da ++ [p]).map V.ref)) L3 = some (.lst ((a.da ++ [p]).map V.ref)) := upd_same
    have hp3 := y3 _ _ hp
    generalize upd H4 L3 (.lst ((a.da ++ [p]).map V.ref)) = H5 at y3 hL3 hp3 ⊢
    have x15 : Same H1 H5 := same_trans x2 (same_trans x3 (same_trans yy y3))
    have e5 := e1.trans (same_ex x15 e1.tab)
    have hD5 := hD1.same x15
    have nO1 : H1 O = none := nO
    have nL11 : H1 L1 = none := same_old x2 nL10
    have nL31 : H1 L3 = none := same_old x2 (same_old x3 (same_old yy nL3))
    have hO5 := y3 _ _ (yy _ _ (x3 _ _ hO2))
    have hL15 := y3 _ _ (yy _ _ hL1)
    have hdl : DeedsAt H5 L3 (a.da ++ [p]) (deedP S h z) := by
      refine ⟨hL3, by unfold deedP; rw [List.length_append, List.length_append, hD.de.len]; rfl, fun i t d h1 h2 => ?_⟩
      unfold deedP at h2
      by_cases c : i < S.deeds.length
      · rw [List.getElem?_append_left c] at h2
        rw [List.getElem?_append_left (by rw [hD.de.len]; exact c)] at h1
        exact hD5.de.at_ i t d h1 h2
      · rw [List.getElem?_append_right (by omega)] at h2
        rw [List.getElem?_append_right (by rw [hD.de.len]; omega), hD.de.len] at h1
        have z : i - S.deeds.length = 0 := by have := (List.getElem?_eq_some_iff.mp h2).1; simp at this; omega
        rw [z] at h1 h2
        cases h1
        cases h2
        exact hp3
    have ou : ∀ c ∈ a.ud :: a.ua, c ≠ L1 ∧ c ≠ O ∧ c ≠ L3 := fun c hc => by
      have : ∃ o, H1 c = some o := by
        rcases List.mem_cons.mp hc with e | e
        · exact ⟨_, e ▸ hD1.ud⟩
        · obtain ⟨i, hi⟩ := List.mem_iff_getElem?.mp e
          obtain ⟨l, hl⟩ := getP (xs := S.undone) (i := i) (by rw [← hD.ul]; exact (List.getElem?_eq_some_iff.mp hi).1)
          exact ⟨_, hD1.un i c l hi hl⟩
      obtain ⟨o, ho⟩ := this
      exact ⟨ne_of_none ho nL11, ne_of_none ho nO1, ne_of_none ho nL31⟩
    refine ⟨tb, L1, O, L3, a, S, S.signs ++ [z], ordP S h, deedP S h z, _, rfl, e5.tab, hD5, hL15, hO5, hdl, ou, hS, fun pg th sp H6 nth nsp kk t6 o6 hD6 => ?_, fun pg H6 x6 => kx pg H6 (e5.trans x6)⟩
    replace k := k pg
    have hu : h < S.undone.length := by rw [← hO.hn]; exact hh
    refine ⟨small0, fun n nn => ⟨_, rfl, tb, B, _, _, _, rfl, by rw [upd_ne (ne_of_none hD6.ob nn)]; exact hD6.ob, X.cls, X.nUndone, rfl, _, rfl, a.ud, _, _, h, rfl, rfl, by rw [upd_ne (ne_of_none hD6.ud nn)]; exact hD6.ud, ixN_nat (by rw [List.length_map, hD6.ul]; exact hu), ?_⟩⟩
    have y7 := same_new (o := .lst []) nn
    have hn7 : upd H6 n (.lst []) n = some (.lst (nV [])) := upd_same
    have n6 : ∀ {c : Addr} {o : HO}, H6 c = some o → n ≠ c := fun h z => by rw [← z, nn] at h; cases h
    generalize upd H6 n (.lst []) = H7 at y7 hn7 ⊢
    have hD7 := hD6.same y7
    have eset : (a.ua.map V.ref).set h (V.ref n) = (a.ua.set h n).map V.ref := by rw [List.map_set]
    have nua : n ∉ a.ua := fun z => by
      obtain ⟨i, hi⟩ := List.mem_iff_getElem?.mp z
      obtain ⟨l, hl⟩ := getP (xs := S.undone) (i := i) (by rw [← hD.ul]; exact (List.getElem?_eq_some_iff.mp hi).1)
      exact n6 (hD6.un i n l hi hl) rfl
    have hD8 := hD7.und0 (h := h) (l := []) hn7 hu ⟨n6 hD6.sp, n6 hD6.ud, nua⟩ ⟨n6 hD6.sg, n6 hD6.od, n6 hD6.th, n6 hD6.de.lst⟩
    dsimp only
    rw [eset]
    have n0 : H n = none := e5.old _ (o6 n nn)
    have old1 : ∀ {c : Addr}, H1 c = none → H c = none := fun z => e1.old _ z
    refine k _ _ (by rfl) (fun c o h m nn2 => ?_) (fun c hc => ?_) (tabs_lst (same_ex y7 t6).tab hD7.ud) (fun b hb => e5.old b (o6 b (same_old y7 (upd_old hD7.ud hb)))) hD8
    · rw [upd_ne (fun z => nn2 (by rw [z]; exact .inr (.inr (.inr (.inr (.inr (.inr (.inl rfl))))))))]
      exact y7 _ _ (kk c o (e5.any h m) m fun z => nn2 (.inl z))
    · rcases ownT_eq hc with z | z
      · rcases setA_own z with z | z | z | z | z | z
        · exact .inl z
        · exact .inr (z ▸ old1 nL11)
        · exact .inr (z ▸ old1 nO1)
        · exact .inr (z ▸ e5.old _ nth)
        · exact .inr (z ▸ old1 nL31)
        · exact .inr (z ▸ e5.old _ nsp)
      · rcases List.mem_or_eq_of_mem_set z with z | z
        · exact .inl (.inr (.inr (.inr (.inr (.inr (.inr (.inr z)))))))
        · exact .inr (z ▸ n0)
end
end TG


namespace TG
open PySem PySem.Spec PyProof.Rows L2 NdefX GenW Gx Lv
/-! ### list.count, flat items -/
theorem cntU {y : V} : ∀ {ys : List V} {its : List Value}, Vals ys its → ys.all flatV = true → its.countP (eqU y) = ys.countP (fun z => eqV z y)
  | [], _, .nil, _ => rfl
  | z :: ys, _, .cons r t, f => by
    rw [List.all_cons, Bool.and_eq_true] at f
    rw [List.countP_cons, List.countP_cons, eqU_of r f.1, cntU t f.2]
def rCnt (K : PySem.W.Frag) : V → List V → Hp → VK → Prop := fun x xs H Q => ∃ (a : Addr) (ys : List V) (y : V), x = .ref a ∧ xs = [y] ∧ SqL K H a ys ∧ flatV y = true ∧ ys.all flatV = true ∧ Q (.int (ys.countP (fun z => eqV z y) : Nat)) H
theorem mt_cnt {X : Cx} : MtR X "list.count" (rCnt X.K) := by
  intro pins s σ H x xs v us Q I rx rxs h
  obtain ⟨a, ys, y, rfl, rfl, hs, fy, fys, q⟩ := h
  cases rx
  obtain ⟨u, rfl, ru⟩ := rxs.one
  obtain ⟨its, rv, ⟨⟨cls, dd, data, sl⟩, n, ho, hc, hdn, hd⟩, hlen⟩ := I.list hs
  simp only at hc hd
  subst hc hd
  have ec : its.toArray.toList.countP (eqU y) = ys.countP (fun z => eqV z y) := cntU rv fys
  refine call_meets PySem.F.slot_list_count ⟨_, ho, rfl⟩ PySem.F.entry_list_count (PySem.F.args_list_count_2 _ _) (SeqAt.list_countAt a its.toArray n dd sl u (eqU y)) ⟨ho, fun w hw => mem_eqAt ru fy rv fys w (by simpa using hw), ?_⟩
  refine ⟨.int (ys.countP (fun z => eqV z y) : Nat), H, I.tok _, ⟨s.toks, ?_⟩, q⟩
  rw [← ec]
/-! ### isinstance and fields of a caught error -/
/-- its dict, if it has one, is told of -/
def XdAt (H : Hp) (d : Option Addr) : Prop := d = none ∨ ∃ dd fs, d = some dd ∧ H dd = some (.xd fs)
def rIsX (K : PySem.W.Frag) (cls : Value) (d : Option Addr) (a : Addr) : List V → Hp → VK → Prop := fun xs H Q => ∃ (c : V) (cv : Value) (b : Bool) (D : Addr), xs = [.ref a, c] ∧ cls = .ref D ∧ ExcC K D ∧ (∀ u, RelV c u → u = cv) ∧ PySem.W.kitOne K (.ref D) cv = some b ∧ XdAt H d ∧ Q (.bl b) H
theorem isCls_of {K : PySem.W.Frag} {D : Addr} (h : PySem.W.hasDictIn K D = true) : (PySem.W.clsIn K D).isSome = true := by
  obtain ⟨cd, hc, _⟩ := PySem.W.any_some h
  rw [hc]
  rfl
section
variable {X : Cx} {a : Addr} {oe : Obj} {cls : Value} {d : Option Addr} {pn : List (Addr × Obj)}
theorem call_isX (hz : Zc cls d oe) (hf : ∃ vs, oe.data = .fields vs) : CallR (X.suite a ((a, oe) :: pn)) (.builtin "isinstance") (rIsX X.K cls d a) := by
  intro pins s σ H xs us Q I r h
  obtain ⟨c, cv, b, D, rfl, rfl, C, hcv, e, hd, q⟩ := h
  cases r with
  | cons rx rr =>
    cases rr with
    | cons rt rr =>
      cases rr
      cases rx
      have ec := hcv _ rt
      subst ec
      obtain ⟨hget, _⟩ := I.pin (a, oe) (List.mem_append.mpr (.inl List.mem_cons_self))
      obtain ⟨vs, hv⟩ := hf
      have nc : PySem.W.notCls oe = true := by
        unfold PySem.W.notCls
        rw [hv] <;> rfl
      have fin : ∀ tk, EP (X.suite a ((a, oe) :: pn)) pins σ Q (.bool b) { s with toks := tk } := fun tk => ⟨.bl b, H, I.kept (t' := tk) fun _ _ z => z, rfl, q⟩
      rcases hd with rfl | ⟨dd, fs, rfl, hdd⟩
      · have J : PySem.W.InstAt s.heap a oe D none := by
          obtain ⟨h1, h2⟩ := hz
          refine ⟨hget, h1, nc, ?_⟩
          rw [h2]
          trivial
        exact PySem.W.kia_one (PySem.W.kitx_exc (isCls_of C.hd) C.hg C.hk C.hs C.ha C.hn C.ht C.hm) I.kIn J e (fun z => nomatch z) fin
      · have hx : ObjOk X.prog X.w H s.heap dd (.xd fs) := I.hok dd _ hdd
        obtain ⟨mA, hns, _⟩ := hx
        obtain ⟨od, ho, _⟩ := lookIn_ns hns
        have J : PySem.W.InstAt s.heap a oe D (some od) := ⟨hget, hz.1, nc, by rw [hz.2]; exact ho⟩
        exact PySem.W.kia_one (PySem.W.kitx_exc (isCls_of C.hd) C.hg C.hk C.hs C.ha C.hn C.ht C.hm) I.kIn J e (fun z => nomatch z) fin
def tXfX (K : PySem.W.Frag) (a : Addr) (cls : Value) (d : Option Addr) (f : Str) (te : TE) : TE := fun σ H Q => ∃ C : Addr, XfC K C ∧ PySem.W.findIn K (.ref C) f = some none ∧ tXf a cls d C f te σ H Q
theorem pe_xfX {e : Expr} {te : TE} {pos : Pos} {n : Str} (hz : Zc cls d oe) (hf : ∃ vs, oe.data = .fields vs) (he : PE (X.suite a ((a, oe) :: pn)) e te) (hb : attributeBase e n X.env (eval e X.env) = eval e X.env := by rfl) :
    PE (X.suite a ((a, oe) :: pn)) (.Attribute e n pos) (tXfX X.K a cls d n te) := by
  refine ⟨fun pins s σ H Q I h => ?_⟩
  obtain ⟨C, T, hno, h⟩ := h
  exact (pe_xf T hno hz hf he hb).run pins s σ H Q I h
end
/-! ### rules for an except suite, whose readings don't speak of the error's object -/
section
variable {X : Cx} {a : Addr} {l : List (Addr × Obj)}
theorem ix_listU : IxR (X.suite a l) (rIxL X.K) := ix_list
theorem op_inU : OpR (X.suite a l) (compareOp .In) (rIn X.K false) := op_in_seq
theorem mt_cntU : MtR (X.suite a l) "list.count" (rCnt X.K) := mt_cnt
theorem mt_indexU : MtR (X.suite a l) "list.index" (rIndex X.K) := mt_index
theorem pe_bmU {T name id : String} {r : V → List V → Hp → VK → Prop} {o e : Expr} {es : List Expr} {to : TE} {t : L2.TA} {apos cpos : Pos} (pa : PlainAttrs T) (slot : Slot T (name : Str) id) (hty : typeOf (.builtin id) = pure (.type "method_descriptor")) (hm : MtR (X.suite a l) id r)
    (ho : PE (X.suite a l) o to) (ha : PA (X.suite a l) (e :: es) t) (hbase : attributeBase o (name : Str) X.env (eval o X.env) = eval o X.env := by rfl)
    (hfew : ((backTo cpos (starEach (e :: es) X.env)).all (fun x => !x.1) && (backToKw cpos (keywordEach [] X.env)).all (fun x => x.1.isSome) && decide ((e :: es).length + ([] : List Keyword).length + (if ([] : List Keyword).isEmpty then 0 else 1) < 30)) = true := by rfl)
    (hline : (apos.endLine == cpos.line) = true := by rfl) (hs : starEach (e :: es) X.env = (false, eval e X.env) :: starEach es X.env := by rfl) (hplain : (backTo cpos (starEach es X.env)).any (·.1) = false := by rfl) :
    PE (X.suite a l) (.Call (.Attribute o (name : Str) apos) (e :: es) [] cpos) (tBM X.K T r to t) := pe_bm pa slot hty hm ho ha hbase hfew hline hs hplain
end
theorem xfC_of {K : PySem.W.Frag} {C : Addr} (h : ExcC K C) : XfC K C := ⟨h.hg, h.hk, h.hs, h.hd⟩
/-! ### a call by name of a lambda without parameters, in a try -/
def tCallX (P : Program) (w : World) (K : PySem.W.Frag) (mg : Str → Option Value) (base : Heap) (k i : Nat) (W : WX) : TE := fun σ H Q => ∃ (f : Addr) (F : NF) (e : Expr) (sp : Sp), σ[i]? = some (some (.ref f)) ∧ H f = some (FnL f F e) ∧ H F.c = some (LamX.CodeO F.c F.qual) ∧ LOkX P w K mg base k f F e sp ∧ sp [] H Q (WE W σ)
theorem pe_callX {X : Cx} {W : WX} {i k : Nat} {x : Str} {p pos : Pos} {P : Program} {w : World} {K : PySem.W.Frag} {mg : Str → Option Value} {base : Heap} (eX : X.prog = P ∧ X.w = w ∧ X.K = K ∧ X.mg = mg ∧ X.base = base) (hr : Room k X.A) (tk : Takes X W) (hN : X.N[i]? = some x) (hv : Vis X.env.scope x) (hd : (x == ("__debug__" : Str)) = false := by decide) (hcd : (x == ("__classdict__" : Str)) = false := by decide) :
    PE X (.Call (.Name x p) [] [] pos) (tCallX P w K mg base k i W) := by
  obtain ⟨rfl, rfl, rfl, rfl, rfl⟩ := eX
  refine ⟨fun pins s σ H Q I h => ?_⟩
  obtain ⟨f, F, b, sp, hs, hf, hc, L, q⟩ := h
  refine wpAny_Call_Name_kw (thn ((pe_var (pos := p) hN hv hd hcd).run pins s σ H (fun v H1 => v = .ref f ∧ H1 = H) I ⟨.ref f, hs, rfl, rfl⟩) fun u s1 ⟨v, H1, I1, r1, q1⟩ => ?_)
  obtain ⟨ev, eH⟩ := q1
  subst ev eH
  obtain rfl : u = Value.ref f := r1
  have at_ : PySem.W.FnAt f s1.heap := by
    obtain ⟨od, sl, pm, ctv, ho⟩ := fnL_at I1.hok hf
    exact ⟨_, od, _, sl, ho⟩
  refine PySem.W.callWith_F0 (first := []) at_ ?_
  refine wpAny_call (codeAny_mono (L.run X.A X.stack s1 H1 Q (WE W σ) hr I1.env0 hf hc q) fun r' s' hq => ?_)
  cases r' with
  | error er => exact passAt tk σ pins H1 s1 er s' I1 hq
  | ok fl =>
    cases fl with
    | ret u => exact I1.after hq
    | next => exact False.elim hq
    | brk => exact False.elim hq
    | cont => exact False.elim hq
end TG


namespace TG
open PySem PySem.Spec PyProof.Rows L2 NdefX GenW Gx Lv
/-! ### cells told of, and what a lambda caught -/
theorem caught_of {cells : List (Str × Addr)} {N names fr : List Str} {σ : L2.St} {cl : List (Addr × Obj)} {F : NF} {ws : List (Option V)} {H : Hp} (T : ToldC cells N names σ cl) (hF : F.cl = cloFrom cells F.scope.names [])
    (hfr : ∀ y, (y, NameKind.free) ∈ F.scope.names → y ∈ fr) (hrf : ∀ y ∈ fr, (y, NameKind.free) ∈ F.scope.names) (hsub : ∀ y ∈ fr, y ∈ names) (len : ws.length = fr.length) (told : ∀ c o, cl.lookup c = some o → H c = some (cellF o))
    (hw : ∀ (i : Nat) (y : Str) (v : V), fr[i]? = some y → ws[i]? = some (some v) → ∃ j : Nat, N[j]? = some y ∧ σ[j]? = some (some v)) : Caught F fr ws cl H := by
  have at_ : ∀ y c, F.cl.lookup y = some c → y ∈ fr ∧ ∃ o v, cells.lookup y = some c ∧ cl.lookup c = some o ∧ o.data = .cell v := fun y c e => by
    rw [hF] at e
    rcases cloFrom_mem (PySem.mem_of_lookup e) with z | ⟨z, hc⟩
    · cases z
    · have hy := hfr y z
      obtain ⟨c', o, v, e1, e2, e3⟩ := T.all y (hsub y hy)
      rw [e1] at hc
      have hc : c = c' := hc
      subst hc
      exact ⟨hy, o, v, e1, e2, e3⟩
  refine ⟨len, told, fun y c e => ?_, fun x y c e1 e2 => ?_, fun i y e => ?_⟩
  · obtain ⟨_, o, v, _, h2, h3⟩ := at_ y c e
    exact ⟨o, v, h2, h3⟩
  · obtain ⟨_, _, _, h1, _⟩ := at_ x c e1
    obtain ⟨_, _, _, h2, _⟩ := at_ y c e2
    exact T.inj x y c h1 h2
  · have hy : y ∈ fr := List.mem_of_getElem? e
    have hm := cloFrom_has (cells := cells) (acc := []) (hrf y hy)
    have hs : ∃ c, F.cl.lookup y = some c := by
      rw [hF]
      cases q : (cloFrom cells F.scope.names []).lookup y with
      | some c => exact ⟨c, rfl⟩
      | none =>
        have := List.lookup_eq_none_iff.mp q _ hm
        simp at this
    obtain ⟨c, hc⟩ := hs
    obtain ⟨_, o, v0, h1, h2, h3⟩ := at_ y c hc
    refine ⟨c, hc, fun v hv => ?_⟩
    obtain ⟨j, hj1, hj2⟩ := hw i y v e hv
    obtain ⟨u, e1, e2⟩ := T.val y (hsub y hy) c o h1 h2 j v hj1 hj2
    exact ⟨o, u, h2, e1, e2⟩
section
variable {cs : List (Addr × Addr)} {H H' : Hp} {cl : List (Addr × Obj)}
theorem add_at (un : ∀ c o, cl.lookup c = some o → H c = none) {b : Addr} {o : HO} (h : H b = some o) : addC H cl b = some o := by
  cases r : cl.lookup b with
  | some u => rw [un b u r] at h; cases h
  | none => rw [addC_out r]; exact h
theorem del_at (un : ∀ c o, cl.lookup c = some o → H c = none) {b : Addr} {o : HO} (h : H b = some o) : cl.lookup b = none := by
  cases r : cl.lookup b with
  | some u => rw [un b u r] at h; cases h
  | none => rfl
theorem add_none {D : Addr} (h : addC H cl D = none) : cl.lookup D = none ∧ H D = none := by
  cases r : cl.lookup D with
  | some u => rw [addC_in r] at h; cases h
  | none => rw [addC_out r] at h; exact ⟨rfl, h⟩
theorem del_upd_add (un : ∀ c o, cl.lookup c = some o → H c = none) {D : Addr} {o : HO} (hD : cl.lookup D = none) : delC (upd (addC H cl) D o) cl = upd H D o := by
  funext b
  cases r : cl.lookup b with
  | some u =>
    rw [delC_in r, upd_ne (fun z => by rw [z, hD] at r; cases r)]
    exact (un b u r).symm
  | none =>
    rw [delC_out r]
    by_cases hb : b = D
    · rw [hb, upd_same, upd_same]
    · rw [upd_ne hb, upd_ne hb, addC_out r]
theorem tabs_add (un : ∀ c o, cl.lookup c = some o → H c = none) (t : Tabs cs H) : Tabs cs (addC H cl) := fun p hp => by
  obtain ⟨ps, h1, h2⟩ := t p hp
  exact ⟨ps, add_at un h1, h2⟩
/-- what came of a heap with the cells told, the cells untold again -/
theorem ex_del (un : ∀ c o, cl.lookup c = some o → H c = none) (told : ∀ c o, cl.lookup c = some o → H' c = some (cellF o)) (x : Ex cs (addC H cl) H') : Ex cs H (delC H' cl) := by
  refine ⟨fun b o h n => ?_, fun p hp => ?_, fun b h => ?_, fun b o h n => ?_⟩
  · rw [delC_out (del_at un h)]
    exact x.ext b o (add_at un h) n
  · obtain ⟨ps, h1, h2⟩ := x.tab p hp
    have r : cl.lookup p.2 = none := by
      cases r : cl.lookup p.2 with
      | none => rfl
      | some u => rw [told _ u r] at h1; cases h1
    exact ⟨ps, by rw [delC_out r]; exact h1, h2⟩
  · cases r : cl.lookup b with
    | some u => exact un b u r
    | none =>
      rw [delC_out r] at h
      exact (add_none (x.old b h)).2
  · rw [delC_out (del_at un h)]
    exact x.oth b o (add_at un h) n
end
end TG


namespace Dl
open PySem PySem.Spec PyProof.Rows L2 NdefX GenW Lv
/-! Lambdas of one parameter, whose default is a whole number, and that capture cells. -/
/-- the function's data, its defaults in a tuple -/
def fnD (name qual : Str) (params : Arguments) (body : Expr) (scope : Scope) (cl : List (Str × Addr)) (pm cdv ct : Value) (dV : Value) : FuncData :=
  { name := name, qualname := qual, params := params, body := .expr body, scope := scope, globals := mainGlobals, closure := cl, defaults := dV, kwdefaults := .none, pyModule := pm, code := cdv, closureTuple := ct, builtins := builtinsNs }
def objD (name qual : Str) (params : Arguments) (body : Expr) (scope : Scope) (cl : List (Str × Addr)) (pm : Value) (c' : Addr) (ct : Value) (dV : Value) : Obj := { cls := .type "function", data := .func (fnD name qual params body scope cl pm (.ref c') ct dV) }
theorem makeTail {M : Model} {A : Around} {E : Value → Shared → Prop} {s : Shared} {name qual : Str} {params : Arguments} {body : Expr} {scope : Scope} {env : Env} {c P : Addr} {ps : Array Value} {pos : Pos} {firstLine : Nat} {mg : Str → Option Value} {q : Str × Addr} {r : List (Str × Addr)} {dV : Value} {Q : Value → Shared → Prop}
    (hcl : closureFor scope env = pure (q :: r)) (hge0 : env.globals = mainGlobals) (hg : s.heap.Ns mainGlobals mg) (hcode : env.code = .ref c) (C : PySem.W.CodeHd s.heap c P) (hP : s.heap.get? P = some (PySem.W.tabObj ps)) (ht : TriplesOk ps.toList) (hnf : codeAmong pos ps.toList = none)
    (hgP : mainGlobals ≠ P) (hb : s.heap.BuiltinsAt mg P)
    (h : ∀ (c' : Nat) (ctv : Value) (h' : Heap) (tk : Nat), Heap.ExtBut P s.heap h' → s.heap.objs.size ≤ c' → c' < h'.objs.size → h'.CodeRec (.ref c') qual → h'.get? P = some (PySem.W.tabObj (ps ++ #[rawInt pos.line, rawInt pos.col, .ref c'])) →
      Q (.ref h'.objs.size) { heap := h'.push (objD name qual params body scope (q :: r) ((mg "__name__").getD .none) c' ctv dV), gens := s.gens, drawn := s.drawn, toks := tk, os := s.os }) :
    wpAny M A (PySem.makeTail name qual params (.expr body) scope env dV .none none pos firstLine) Q E s := by
  obtain ⟨bm, ob, hbm, hne0, hl, hneP, hbo, hcls, hdict, hdata⟩ := hb
  unfold PySem.makeTail
  rw [hcl, hge0]
  refine wpAny_bind (wpAny_pure ?_)
  rw [if_neg (by simp)]
  refine wpAny_bind (wpAny_newTextTuple ?_)
  refine wpAny_bind (wpAny_functionCodeX hcode (PySem.W.CodeHd.code (C.keeps fun b o e => Heap.get?_push_of_some _ e) (Heap.get?_push_of_some _ hP) ht) (PySem.W.CodeHd.tab (C.keeps fun b o e => Heap.get?_push_of_some _ e) (Heap.get?_push_of_some _ hP)) hnf fun c' h' tk hx hge hlt x hrec htb x_1 => ?_)
  have hg' := Heap.Ns.extBut (Heap.Ns.push hg _) hx hgP
  have hx' : Heap.ExtBut P s.heap h' := fun b o hb' e => hx b o hb' (Heap.get?_push_of_some _ e)
  have hge' : s.heap.objs.size ≤ c' := by
    have hge2 : s.heap.objs.size + 1 ≤ c' := by
      have := hge
      rw [Heap.size_push] at this
      exact this
    omega
  refine wpAny_bind (wpAny_builtinsFor hg' hbm hne0 (hx' bm ob hneP hbo) hcls hdict hdata (wpAny_bind (wpAny_nsGet hg' (wpAny_bind (wpAny_pure (wpAny_newObj_type (h c' _ h' tk hx' hge' hlt hrec htb.2) ?_))))))
  simp [sizeOk]
theorem makeTailHit {M : Model} {A : Around} {E : Value → Shared → Prop} {s : Shared} {name qual : Str} {params : Arguments} {body : Expr} {scope : Scope} {env : Env} {c P c' : Addr} {ps : Array Value} {pos : Pos} {firstLine : Nat} {mg : Str → Option Value} {q : Str × Addr} {r : List (Str × Addr)} {dV : Value} {Q : Value → Shared → Prop}
    (hcl : closureFor scope env = pure (q :: r)) (hge0 : env.globals = mainGlobals) (hg : s.heap.Ns mainGlobals mg) (hcode : env.code = .ref c) (C : PySem.W.CodeHd s.heap c P) (hP : s.heap.get? P = some (PySem.W.tabObj ps)) (ht : TriplesOk ps.toList) (hh : codeAmong pos ps.toList = some (.ref c'))
    (hb : s.heap.BuiltinsAt mg P)
    (h : ∀ (ctv : Value) (h' : Heap) (tk : Nat), (∀ (b : Addr) (o : Obj), s.heap.get? b = some o → h'.get? b = some o) → s.heap.objs.size ≤ h'.objs.size →
      Q (.ref h'.objs.size) { heap := h'.push (objD name qual params body scope (q :: r) ((mg "__name__").getD .none) c' ctv dV), gens := s.gens, drawn := s.drawn, toks := tk, os := s.os }) :
    wpAny M A (PySem.makeTail name qual params (.expr body) scope env dV .none none pos firstLine) Q E s := by
  obtain ⟨bm, ob, hbm, hne0, hl, hneP, hbo, hcls, hdict, hdata⟩ := hb
  unfold PySem.makeTail
  rw [hcl, hge0]
  refine wpAny_bind (wpAny_pure ?_)
  rw [if_neg (by simp)]
  refine wpAny_bind (wpAny_newTextTuple ?_)
  refine wpAny_bind (wpAny_functionCode_hit hcode (PySem.W.CodeHd.code (C.keeps fun b o e => Heap.get?_push_of_some _ e) (Heap.get?_push_of_some _ hP) ht) hh ?_)
  have hg' := Heap.Ns.push hg { cls := Value.type "tuple", data := Data.seq (List.map (fun x => Value.ref x.snd) ((q :: r).mergeSort fun a b => decide (a.fst.cps.toList ≤ b.fst.cps.toList))).toArray }
  refine wpAny_bind (wpAny_builtinsFor hg' hbm hne0 (Heap.get?_push_of_some _ hbo) hcls hdict hdata (wpAny_bind (wpAny_nsGet hg' (wpAny_bind (wpAny_pure (wpAny_newObj_type (h _ _ _ (fun b o e => Heap.get?_push_of_some _ e) (by rw [Heap.size_push]; exact Nat.le_succ _)) ?_))))))
  simp [sizeOk]
/-- the object at f is the lambda F of the body e, its defaults at t -/
def FnD (f : Addr) (F : NF) (e : Expr) (t : Addr) : HO := .ext fun h => ∃ (od : Option Addr) (sl : Array (Option Value)) (pm ctv : Value), h.get? f = some (⟨.type "function", od, .func (fnD F.name F.qual F.params e F.scope F.cl pm (.ref F.c) ctv (.ref t)), sl⟩ : Obj)
theorem fnD_at {P : Program} {w : World} {H : Hp} {h : Heap} {f : Addr} {F : NF} {e : Expr} {t : Addr} (hok : HOk P w H h) (q : H f = some (FnD f F e t)) : ∃ (od : Option Addr) (sl : Array (Option Value)) (pm ctv : Value), h.get? f = some (⟨.type "function", od, .func (fnD F.name F.qual F.params e F.scope F.cl pm (.ref F.c) ctv (.ref t)), sl⟩ : Obj) := by
  have z := hok f _ q
  obtain ⟨z, _, _⟩ := z
  exact z
theorem fnD_ne {f : Addr} {F : NF} {e : Expr} {t : Addr} (ps : Array Value) : FnD f F e t ≠ .tbl ps := fun z => by
  unfold FnD at z
  cases z
section
variable {X : Cx} {pins : List (Addr × Obj)} {σ : L2.St} {H : Hp} {s : Shared}
theorem inv_lamD {F : NF} {e : Expr} {t : Addr} {tk : Nat} {pm ctv : Value} (I : Inv X pins σ H s) :
    Inv X pins σ (upd H s.heap.objs.size (FnD s.heap.objs.size F e t)) { s with heap := s.heap.push (objD F.name F.qual F.params e F.scope F.cl pm F.c ctv (.ref t)), toks := tk } := by
  refine I.laid (a := s.heap.objs.size) (fun b u q => Heap.get?_push_of_some _ q) (Nat.le_refl _) ?_
  have q : (s.heap.push (objD F.name F.qual F.params e F.scope F.cl pm F.c ctv (.ref t))).get? s.heap.objs.size = some (objD F.name F.qual F.params e F.scope F.cl pm F.c ctv (.ref t)) := Heap.get?_push_size _ rfl
  exact ⟨⟨_, _, pm, ctv, q⟩, ⟨_, q⟩, fun h1 h2 ⟨od, sl, p, t, z⟩ st => ⟨od, sl, p, t, st _ z⟩⟩
theorem inv_tup0 {v : V} {u : Value} (I : Inv X pins σ H s) (r : RelV v u) :
    Inv X pins σ (upd H s.heap.objs.size (.tup [v])) { s with heap := s.heap.push { cls := Value.type "tuple", data := Data.seq [u].toArray } } :=
  I.laid (t' := s.toks) (fun b u e => Heap.get?_push_of_some _ e) (Nat.le_refl _) ⟨by show 1 ≤ sizeLine; decide, [u], .cons r .nil, _, Heap.get?_push_size s.heap rfl, rfl, 0, rfl⟩
/-- a lambda with one default is made -/
theorem lam_valD {c P : Addr} {params : Arguments} {body d : Expr} {scope : Scope} {pos : Pos} {Q : Value → Shared → Prop} {q0 : Str × Addr} {r0 : List (Str × Addr)} {v : V} (I : Inv X pins σ H s) (B : LamX.TabB X.base X.mg c P) (hcode : X.env.code = .ref c)
    (hT : LamX.TabS H P (X.env.qual ++ "<lambda>")) (hdef : params.defaults = [d]) (hkw : params.kw_defaults = []) (hko : params.kwonlyargs = []) (hd : PE X d (tC v)) (hfree : ∀ y ∈ scope.names, y.2 = .free → ∃ c, X.env.cells.lookup y.1 = some c) (hclo : cloFrom X.env.cells scope.names [] = q0 :: r0)
    (k : ∀ (f c' t : Addr) (H1 : Hp) (s' : Shared), Inv X pins σ H1 s' → (∀ b o, H b = some o → b ≠ P → H1 b = some o) → (∀ b, H1 b = none → H b = none) → LamX.TabS H1 P (X.env.qual ++ "<lambda>") → H f = none →
      H1 f = some (FnD f ⟨"<lambda>", X.env.qual ++ "<lambda>", params, [], scope, cloFrom X.env.cells scope.names [], c'⟩ body t) → H1 c' = some (LamX.CodeO c' (X.env.qual ++ "<lambda>")) → H1 t = some (.tup [v]) → Q (.ref f) s') :
    wpAny (model X.prog X.w) X.A (eval (.Lambda params body scope pos) X.env) Q X.xe s := by
  refine PySem.W.kdv_lam (by rw [hdef]; rfl) hkw ?_
  rw [hdef]
  show wpAny _ _ (evalAll (eval d X.env :: [])) _ _ _
  refine evalAll_cons (thn (hd.run pins s σ H (fun x H1 => x = v ∧ H1 = H) I ⟨rfl, rfl⟩) fun u s1 ⟨x, H1, I1, ru, ex, eH⟩ => ?_)
  subst ex
  subst eH
  refine wpAny_pure ?_
  rw [makeFunction_eq]
  simp only [List.isEmpty_cons, hko, List.zip_nil_left, List.filterMap_nil, List.isEmpty_nil, if_true, Bool.false_eq_true, if_false]
  refine wpAny_bind (wpAny_newTextTuple ?_)
  refine wpAny_bind (wpAny_pure ?_)
  refine wpAny_bind (wpAny_pure ?_)
  have I2 := inv_tup0 I1 ru
  have nt := I1.hok.fresh (Nat.le_refl s1.heap.objs.size)
  have ht2 : upd H1 s1.heap.objs.size (.tup [x]) s1.heap.objs.size = some (.tup [x]) := upd_same
  have kp2 : ∀ b o, H1 b = some o → upd H1 s1.heap.objs.size (.tup [x]) b = some o := fun b o e => by rw [upd_ne (ne_of_none e nt)]; exact e
  have np2 : ∀ b, upd H1 s1.heap.objs.size (.tup [x]) b = none → H1 b = none := fun b e => by
    unfold upd at e
    split at e
    · cases e
    · exact e
  obtain ⟨ps, tP0, tok, tin0⟩ := hT
  have tP := kp2 _ _ tP0
  have tin : ∀ pos cv, codeAmong pos ps.toList = some cv → ∃ c0, cv = .ref c0 ∧ upd H1 s1.heap.objs.size (.tup [x]) c0 = some (LamX.CodeO c0 (X.env.qual ++ "<lambda>")) := fun pos cv e => by
    obtain ⟨c0, e1, e2⟩ := tin0 pos cv e
    exact ⟨c0, e1, kp2 _ _ e2⟩
  generalize upd H1 s1.heap.objs.size (.tup [x]) = H2 at I2 ht2 kp2 np2 tP tin ⊢
  generalize s1.heap.objs.size = t at ht2 ⊢
  generalize hs2 : ({ heap := s1.heap.push { cls := Value.type "tuple", data := Data.seq [u].toArray }, gens := s1.gens, drawn := s1.drawn, toks := s1.toks, os := s1.os } : Shared) = s2 at I2 ⊢
  have bP : s2.heap.BuiltinsAt X.mg P := B.bm.keeps I2.bk
  have gP : s2.heap.get? P = some { cls := .none, data := .fields ps } := I2.hok P _ tP
  have none3 : ∀ {G : Hp} {x y z : Addr} {o u v : HO} {b : Addr}, upd (upd (upd G x o) y u) z v b = none → G b = none := fun {G x y z o u v b} q => by
    have r1 := q
    unfold upd at r1
    split at r1
    · cases r1
    split at r1
    · cases r1
    split at r1
    · cases r1
    exact r1
  have hclf : closureFor scope X.env = pure (q0 :: r0) := by rw [← hclo]; exact closure_ok hfree
  cases hc : codeAmong pos ps.toList with
  | some cv =>
    obtain ⟨c', e, hco⟩ := tin pos cv hc
    subst e
    refine makeTailHit (mg := X.mg) (c := c) (P := P) (ps := ps) hclf I2.ok.glob (I2.mod.glob.keeps I2.bk) hcode (B.code.keeps I2.bk) gP tok hc bP fun ctv h' tk hx2 hsz => ?_
    have I3 : Inv X pins σ H2 { s2 with heap := h', toks := tk } := I2.kept hx2
    have nF : H2 h'.objs.size = none := I3.hok.fresh (Nat.le_refl _)
    have I4 := inv_lamD (F := ⟨"<lambda>", X.env.qual ++ "<lambda>", params, [], scope, cloFrom X.env.cells scope.names [], c'⟩) (e := body) (t := t) (tk := tk) (pm := (X.mg "__name__").getD .none) (ctv := ctv) I3
    rw [hclo] at I4
    refine k h'.objs.size c' t _ _ I4 (fun b o q _ => by rw [upd_ne (ne_of_none (kp2 _ _ q) nF)]; exact kp2 _ _ q) (fun b q => np2 b ?_) ⟨ps, by rw [upd_ne (ne_of_none tP nF)]; exact tP, tok, fun p' cv' q => ?_⟩ (np2 _ nF) (by rw [upd_same, hclo]) (by rw [upd_ne (ne_of_none hco nF)]; exact hco) (by rw [upd_ne (ne_of_none ht2 nF)]; exact ht2)
    · unfold upd at q
      split at q
      · cases q
      · exact q
    · obtain ⟨c0, e1, e2⟩ := tin p' cv' q
      exact ⟨c0, e1, by rw [upd_ne (ne_of_none e2 nF)]; exact e2⟩
  | none =>
    refine makeTail (mg := X.mg) (c := c) (P := P) (ps := ps) hclf I2.ok.glob (I2.mod.glob.keeps I2.bk) hcode (B.code.keeps I2.bk) gP tok hc B.gP bP fun c' ctv h' tk hx2 hge hlt hrec htb => ?_
    obtain ⟨c2, oc, vs, t2, e2, hoc, hd2, hv⟩ := hrec
    cases e2
    have nC : H2 c' = none := I2.hok.fresh hge
    have I3 := LamX.inv_table (t' := tk) (more := #[rawInt pos.line, rawInt pos.col, .ref c']) (h' := h') I2 tP (fun b o hb q => hx2 b o hb q) htb hge ⟨oc, vs, t2, hoc, hd2, hv⟩
    have nF := I3.hok.fresh (Nat.le_refl _)
    have I4 := inv_lamD (F := ⟨"<lambda>", X.env.qual ++ "<lambda>", params, [], scope, cloFrom X.env.cells scope.names [], c'⟩) (e := body) (t := t) (tk := tk) (pm := (X.mg "__name__").getD .none) (ctv := ctv) I3
    rw [hclo] at I4
    have fC : h'.objs.size ≠ c' := Nat.ne_of_gt hlt
    have pC : P ≠ c' := ne_of_none tP nC
    have nF0 : H2 h'.objs.size = none := I2.hok.fresh (Nat.le_trans hge (Nat.le_of_lt hlt))
    have pF : P ≠ h'.objs.size := ne_of_none tP nF0
    have eL : (ps ++ #[rawInt pos.line, rawInt pos.col, .ref c']).toList = ps.toList ++ [rawInt pos.line, rawInt pos.col, .ref c'] := by simp
    have kk : ∀ b o, H2 b = some o → b ≠ P → upd (upd (upd H2 P (.tbl (ps ++ #[rawInt pos.line, rawInt pos.col, .ref c']))) c' (LamX.CodeO c' (X.env.qual ++ "<lambda>"))) h'.objs.size (FnD h'.objs.size ⟨"<lambda>", X.env.qual ++ "<lambda>", params, [], scope, q0 :: r0, c'⟩ body t) b = some o := fun b o q hb => by
      rw [upd_ne (ne_of_none q nF0), upd_ne (ne_of_none q nC), upd_ne hb]
      exact q
    refine k h'.objs.size c' t _ _ I4 (fun b o q hb => kk b o (kp2 _ _ q) hb) (fun b q => np2 b (none3 q)) ⟨_, by rw [upd_ne pF, upd_ne pC, upd_same], by rw [eL]; exact PySem.TriplesOk_snoc _ _ _ _ tok, fun p' cv q => ?_⟩ (np2 _ nF0) (by rw [upd_same, hclo]) (by rw [upd_ne fC.symm, upd_same]) (kk t _ ht2 fun e => by rw [e, tP] at ht2; cases ht2)
    rw [eL] at q
    rcases LamX.among_app _ tok q with z | z
    · obtain ⟨c0, e1, e2⟩ := tin p' cv z
      exact ⟨c0, e1, kk _ _ e2 (fun y => by rw [y, tP] at e2; exact LamX.codeO_ne ps (Option.some.inj e2).symm)⟩
    · exact ⟨c', z, by rw [upd_ne fC.symm, upd_same]⟩
end
end Dl


namespace Dl
open PySem PySem.Spec PyProof.Rows L2 NdefX GenW Lv
theorem bind1 {M : Model} {A : Around} {E : Value → Shared → Prop} {s : Shared} {name qual nm : Str} {params : Arguments} {body : Expr} {scope : Scope} {cl : List (Str × Addr)} {pm cdv ct u : Value} {t : Addr} {o : Obj} {n : Nat} {Q : List (Str × Value) → Shared → Prop}
    (hp : params.posonlyargs = []) (ha : params.args.map (·.arg) = [nm]) (hk : params.kwonlyargs = []) (hv : params.vararg = none) (hkw : params.kwarg = none) (ho : s.heap.get? t = some o) (hd : o.data = .seq #[u] n) (h : Q [(nm, u)] s) :
    wpAny M A (bindArgs (fnD name qual params body scope cl pm cdv ct (.ref t)) ⟨[], []⟩) Q E s := by
  unfold bindArgs
  simp only [fnD, hp, ha, hk, hv, hkw, List.map_nil, List.nil_append, List.zip_nil_right, List.forIn_nil]
  refine wpAny_bind (wpAny_pure ?_)
  refine wpAny_bind (wpAny_seqItems ho hd ?_)
  simp
  exact wpAny_pure h
end Dl

namespace TG
open PySem PySem.Spec PyProof.Rows L2 NdefX GenW Gx Lv Dl
/-! ### works: lambdas that are called without anything, with or without a default -/
structure LamW (P : Program) (w : World) (K : PySem.W.Frag) (mg : Str → Option Value) (base : Heap) (k : Nat) (f : Addr) (Hf : Hp → Prop) (sp : Sp) : Prop where
  at_ : ∀ {H : Hp} {h : Heap}, HOk P w H h → Hf H → PySem.W.FnAt f h
  run : ∀ (A : Around) (outer : List Env) (s : Shared) (H : Hp) (Q : VK) (E : XK), Room k A → Env0 P w K mg base A outer s H → Hf H → sp [] H Q E →
    codeAny (model P w) A (.call (.ref f) ⟨[], []⟩) (CR (L2.CX P w) outer P w H s Q E) s
/-- a lambda without parameters stands -/
def HfL (f : Addr) (F : NF) (e : Expr) (H : Hp) : Prop := H f = some (FnL f F e) ∧ H F.c = some (LamX.CodeO F.c F.qual)
/-- one with a default -/
def HfD (f : Addr) (F : NF) (e : Expr) (t : Addr) (v : V) (H : Hp) : Prop := H f = some (FnD f F e t) ∧ H F.c = some (LamX.CodeO F.c F.qual) ∧ H t = some (.tup [v])
theorem HfL.ex {cs : List (Addr × Addr)} {f : Addr} {F : NF} {e : Expr} {H H' : Hp} (h : HfL f F e H) (x : Ex cs H H') : HfL f F e H' :=
  ⟨x.ext _ _ h.1 fun ps => fnL_ne ps, x.ext _ _ h.2 fun ps => LamX.codeO_ne ps⟩
theorem HfD.ex {cs : List (Addr × Addr)} {f : Addr} {F : NF} {e : Expr} {t : Addr} {v : V} {H H' : Hp} (h : HfD f F e t v H) (x : Ex cs H H') : HfD f F e t v H' :=
  ⟨x.ext _ _ h.1 fun ps => fnD_ne ps, x.ext _ _ h.2.1 fun ps => LamX.codeO_ne ps, x.tup h.2.2⟩
section
variable {P : Program} {w : World} {K : PySem.W.Frag} {mg : Str → Option Value} {base : Heap}
theorem lamw_l {k : Nat} {f : Addr} {F : NF} {e : Expr} {sp : Sp} (L : LOkX P w K mg base k f F e sp) : LamW P w K mg base k f (HfL f F e) sp :=
  ⟨fun {H h} hok q => by
    obtain ⟨od, sl, pm, ctv, ho⟩ := fnL_at hok q.1
    exact ⟨_, od, _, sl, ho⟩, fun A outer s H Q E hr e0 h hsp => L.run A outer s H Q E hr e0 h.1 h.2 hsp⟩
theorem lamw_d {k : Nat} {f t : Addr} {F : NF} {e : Expr} {N fr : List Str} {nm : Str} {v : V} {sp : Sp} (S : NScope N [nm] fr F.scope) (hp : F.params.posonlyargs = []) (ha : F.params.args.map (·.arg) = [nm]) (hk : F.params.kwonlyargs = []) (hv : F.params.vararg = none) (hkw : F.params.kwarg = none) (hloc : F.scope.names.lookup nm = some .local)
    (hbody : ∀ (A : Around) (outer : List Env) (s : Shared) (H : Hp) (Q : VK) (E : XK), Room k (A.deeper (envF F f s.heap.objs.size)) → sp [] H Q E → ∃ (ws : List (Option V)) (cl : List (Addr × Obj)) (t : TE), Caught F fr ws cl H ∧
      PE (ncx (L2.CX P w) P w K mg base N F f A outer s (delC H cl) (fun cls d H' => (∀ c o, cl.lookup c = some o → H' c = none) → E cls d (addC H' cl))) e t ∧ t (startF N [v] ws) (delC H cl) (fun v H' => (∀ c o, cl.lookup c = some o → H' c = none) → Q v (addC H' cl))) :
    LamW P w K mg base (k + 1) f (HfD f F e t v) sp := by
  refine ⟨fun {H h} hok q => ?_, fun A outer s H Q E hr e0 hfd hsp => ?_⟩
  · obtain ⟨od, sl, pm, ctv, ho⟩ := fnD_at hok q.1
    exact ⟨_, od, _, sl, ho⟩
  obtain ⟨hf, hc, ht0⟩ := hfd
  have lim : s.heap.NoLimit := e0.mod.nolimit.keeps fun b o q => (e0.bs b o q).1
  obtain ⟨od, sl, pm, ctv, ho⟩ := fnD_at e0.hok hf
  obtain ⟨ws, cl, tm, C, ht, hq⟩ := hbody A outer s H Q E (hr.deeper _) hsp
  obtain ⟨_, us, rv, ot, hot, hoc, n, hod⟩ := e0.hok t _ ht0
  obtain ⟨u, rfl, ru⟩ : ∃ u, us = [u] ∧ RelV v u := by
    cases rv with
    | cons r rest => cases rest; exact ⟨_, rfl, r⟩
  have hnf : ∀ c o, cl.lookup c = some o → c ∉ frs outer := fun c o q hb => by
    have z := e0.frf c hb
    rw [C.told c o q] at z
    cases z
  have at0 : ∀ c o, cl.lookup c = some o → s.heap.get? c = some o := fun c o q => (e0.hok c _ (C.told c o q)).1
  refine codeAny_mono (R := CR (L2.CX P w) outer P w (delC H cl) s (fun v H' => (∀ c o, cl.lookup c = some o → H' c = none) → Q v (addC H' cl)) (fun cls d H' => (∀ c o, cl.lookup c = some o → H' c = none) → E cls d (addC H' cl))) ?_ fun r s' q => ?_
  · have e1 := env_del e0 C.told
    refine PySem.W.kla_callFunE hr.depth ho rfl S.co S.gen rfl (codeO_at e0.hok hc) ?_
    refine bind1 hp ha hk hv hkw hot hod ?_
    refine wpAny_newFunctionEnv S.nocell (fun ⟨n, _⟩ hy => by rw [List.mem_singleton] at hy; injection hy with h1 _; rw [h1]; exact hloc) (fun h₁ hns hsb => ⟨lim.fresh _ hsb, ?_⟩) S.kind
    have kp : ∀ b o, s.heap.get? b = some o → h₁.get? b = some o := fun b o q => hsb.extBut b o (Nat.ne_of_lt (Heap.lt_size q)) (Heap.get?_push_of_some _ q)
    have CA : NdefX.CellsAt F.cl fr ws s.heap (delC H cl) := by
      refine ⟨C.len, fun y c q => ?_, C.inj, fun i y q => ?_⟩
      · obtain ⟨o, v, h1, h2⟩ := C.all y c q
        exact ⟨delC_in h1, v, o, at0 c o h1, h2⟩
      · obtain ⟨c, h1, h2⟩ := C.has i y q
        refine ⟨c, h1, fun v hv => ?_⟩
        obtain ⟨o, u, h3, h4, h5⟩ := h2 v hv
        exact ⟨u, h5, o, at0 c o h3, h4⟩
    have I := inv_startN (CX := L2.CX P w) (P := P) (w := w) (E := fun cls d H' => (∀ c o, cl.lookup c = some o → H' c = none) → E cls d (addC H' cl)) (f := f) (tk := s.toks + (([nm] : List Str).zip ([u] : List Value)).length) S hr.hd e1 (vs := [v]) (us := [u]) rfl (.cons ru .nil) CA hns kp
    refine PySem.W.kla_codeExpr (wpAny_mono (ht.run [] _ (startF N [v] ws) (delC H cl) _ I hq) (fun v s' q => ?_) fun e' s' q => q)
    obtain ⟨w', H', J, rv, q⟩ := q
    exact ⟨w', H', J.os, J.bare, J.base, J.hok, rv, q⟩
  · cases r with
    | error er => exact cx_add e0.hok (fun c o q => ⟨C.told c o q, hnf c o q⟩) q
    | ok fl =>
      cases fl with
      | ret u => exact ce_add e0.hok (fun c o q => ⟨C.told c o q, hnf c o q⟩) q
      | next => exact False.elim q
      | brk => exact False.elim q
      | cont => exact False.elim q
end
/-! ### a call of such a work by a local's name, in a try -/
def tCallW (P : Program) (w : World) (K : PySem.W.Frag) (mg : Str → Option Value) (base : Heap) (k i : Nat) (W : WX) : TE := fun σ H Q => ∃ (f : Addr) (Hf : Hp → Prop) (sp : Sp), σ[i]? = some (some (.ref f)) ∧ Hf H ∧ LamW P w K mg base k f Hf sp ∧ sp [] H Q (WE W σ)
theorem pe_callW {X : Cx} {W : WX} {i k : Nat} {x : Str} {p pos : Pos} {P : Program} {w : World} {K : PySem.W.Frag} {mg : Str → Option Value} {base : Heap} (eX : X.prog = P ∧ X.w = w ∧ X.K = K ∧ X.mg = mg ∧ X.base = base) (hr : Room k X.A) (tk : Takes X W) (hN : X.N[i]? = some x) (hv : Vis X.env.scope x) (hd : (x == ("__debug__" : Str)) = false := by decide) (hcd : (x == ("__classdict__" : Str)) = false := by decide) :
    PE X (.Call (.Name x p) [] [] pos) (tCallW P w K mg base k i W) := by
  obtain ⟨rfl, rfl, rfl, rfl, rfl⟩ := eX
  refine ⟨fun pins s σ H Q I h => ?_⟩
  obtain ⟨f, Hf, sp, hs, hf, L, q⟩ := h
  refine wpAny_Call_Name_kw (thn ((pe_var (pos := p) hN hv hd hcd).run pins s σ H (fun v H1 => v = .ref f ∧ H1 = H) I ⟨.ref f, hs, rfl, rfl⟩) fun u s1 ⟨v, H1, I1, r1, q1⟩ => ?_)
  obtain ⟨ev, eH⟩ := q1
  subst ev eH
  obtain rfl : u = Value.ref f := r1
  have at_ := L.at_ I1.hok hf
  refine PySem.W.callWith_F0 (first := []) at_ ?_
  refine wpAny_call (codeAny_mono (L.run X.A X.stack s1 H1 Q (WE W σ) hr I1.env0 hf q) fun r' s' hq => ?_)
  cases r' with
  | error er => exact passAt tk σ pins H1 s1 er s' I1 hq
  | ok fl =>
    cases fl with
    | ret u => exact I1.after hq
    | next => exact False.elim hq
    | brk => exact False.elim hq
    | cont => exact False.elim hq
/-! ### such a lambda is made -/
def tLamD (P : Addr) (q : Str) (params : Arguments) (body : Expr) (scope : Scope) (cl : List (Str × Addr)) (v : V) : TE := fun _ H Q => LamX.TabS H P q ∧ ∀ (f c' t : Addr) (H1 : Hp), (∀ b o, H b = some o → b ≠ P → H1 b = some o) → (∀ b, H1 b = none → H b = none) → LamX.TabS H1 P q → H f = none →
  HfD f ⟨"<lambda>", q, params, [], scope, cl, c'⟩ body t v H1 → Q (.ref f) H1
theorem pe_lamD {X : Cx} {c P : Addr} {params : Arguments} {body d : Expr} {scope : Scope} {pos : Pos} {v : V} (B : LamX.TabB X.base X.mg c P) (hcode : X.env.code = .ref c) (hdef : params.defaults = [d]) (hkw : params.kw_defaults = []) (hko : params.kwonlyargs = []) (hd : PE X d (tC v))
    (hfr : ∀ y ∈ scope.names, y.2 = .free → X.env.kindOf y.1 = some .cell ∨ X.env.kindOf y.1 = some .free) (hne : ∃ y ∈ scope.names, y.2 = .free) :
    PE X (.Lambda params body scope pos) (tLamD P (X.env.qual ++ "<lambda>") params body scope (cloFrom X.env.cells scope.names []) v) := by
  refine ⟨fun pins s σ H Q I h => ?_⟩
  obtain ⟨hT, h⟩ := h
  have hfree : ∀ y ∈ scope.names, y.2 = .free → ∃ c, X.env.cells.lookup y.1 = some c := fun y hy e => I.ok.has _ (hfr y hy e)
  obtain ⟨y, hy, ey⟩ := hne
  obtain ⟨cy, hcy⟩ := hfree y hy ey
  cases hq : cloFrom X.env.cells scope.names [] with
  | nil =>
    have hm := @cloFrom_has X.env.cells scope.names [] y.1 (by rw [← ey]; exact hy)
    rw [hq] at hm
    cases hm
  | cons q0 r0 =>
    rw [hq] at h
    exact lam_valD I B hcode hT hdef hkw hko hd hfree hq fun f c' t H1 s' J k1 k2 t1 nf hf hc ht => ⟨.ref f, H1, J, rfl, h f c' t H1 k1 k2 t1 nf ⟨by rw [← hq]; exact hf, hc, ht⟩⟩
end TG


namespace TG
open PySem PySem.Spec PyProof.Rows L2 NdefX GenW Gx Lv
section
variable {P : Program} {w : World} {K : PySem.W.Frag} {mg : Str → Option Value} {base : Heap} {cs : List (Addr × Addr)} {B C G : Addr}
/-! ### _law_could -/
def spCould (P : Program) (w : World) (K : PySem.W.Frag) (mg : Str → Option Value) (base : Heap) (G : Addr) (kl : Nat) : Sp := fun vs H Q _ => ∃ (f : Addr) (Hf : Hp → Prop) (sp : Sp),
  vs = [.ref f] ∧ Hf H ∧ LamW P w K mg base kl f Hf sp ∧
  ∀ (Z : VK) (E : XK), (∀ v H', Q (.bl true) H' → Z v H') → (∀ (cls : Value) (d : Option Addr) H', PySem.W.exmOne K cls (.ref G) = some true → Q .non H' → E cls d H') → sp [] H Z E
theorem sc_could : FnScope ["_law_work", "_law_found"] ["_law_work"] (defScope s_could) := ⟨rfl, rfl, rfl, by decide +kernel, rfl, by decide +kernel, by decide +kernel⟩
theorem ok_could {f : Addr} {fd : FuncData} {kl : Nat} (eG : mg "GrowError" = some (.ref G)) (F : Fun K "_law_could" "_law_could" s_could f fd) :
    FnOk P w K mg base CX0 (kl + 1) f fd ["_law_work"] (spCould P w K mg base G kl) := by
  refine F.ok sc_could (fun vs H Q E h => ?_) (fun cdv A outer s H vs Q E hr h => ?_)
  · obtain ⟨f, Hf, sp, rfl, _⟩ := h
    rfl
  · obtain ⟨fl, Hf, sp, rfl, hf, L, k⟩ := h
    have nd := sc_could.nd
    refine ⟨_, pss_cons (ps_set (i := 1) nd rfl (.inl rfl) pe_non)
      (pss_cons (ps_try_many rfl rfl takes0 (fun W pn xe tk _ => pss_cons (ps_expr (pe_callW (P := P) (w := w) (K := K) (mg := mg) (base := base) (k := kl) (i := 0) ⟨rfl, rfl, rfl, rfl, rfl⟩ hr tk rfl (.inl rfl))) (pss_one (ps_set (i := 1) nd rfl (.inl rfl) pe_bl)))
        (.cons ⟨rfl, by decide, .inl eG⟩ (fun a oe cls d pn _ _ => pss_one (ps_set (i := 1) nd rfl (.inl rfl) pe_non)) .nil))
      (pss_one (ps_ret (pv 1)))), ?_⟩
    exact ⟨fl, Hf, sp, rfl, hf, L, k _ _ (fun v H' q => ⟨_, rfl, q⟩) fun cls d H' e q => ⟨true, e, fun _ a na => ⟨_, rfl, q⟩, fun z => nomatch z⟩⟩
end
end TG

namespace L2
open PySem PySem.Spec PyProof.Rows
/-! ### a list comprehension whose element makes lambdas -/
section
variable {X : Cx}
theorem lcC_core {pins : List (Addr × Obj)} {s : Shared} {σ : St} {H : Hp} {Q : VK} {elt tg iter : Expr} {ifs : List Expr} {scope : Scope} {own : List (Str × Nat)} {pos pos' : Pos} {wi : TI} {g : TG} {tt : TT} {te : TE} {use : Option (Value → Sem Unit)} {Qf : Value → Shared → Prop}
    (hc : X.calm = true) (hN : X.N.Nodup) (I : Inv X pins σ H s) (hi : PI X tg iter wi) (ok : BlkOk X.N X.env.scope scope own)
    (hg : ∀ (s : Shared) (H : Hp) (C : Addr) (cl : List (Str × Addr)) (fp : List Addr), PG (X.blk s H scope (compEnvC scope cl C X.env) fp) tg g) (ht : ∀ (s : Shared) (H : Hp) (C : Addr) (cl : List (Str × Addr)) (fp : List Addr), PTs (X.blk s H scope (compEnvC scope cl C X.env) fp) ifs tt)
    (he : ∀ (s : Shared) (H : Hp) (C : Addr) (cl : List (Str × Addr)) (fp : List Addr), (∀ y c, cl.lookup y = some c → X.base.get? c = none ∧ c ∉ frs X.stack) → PE (X.blk s H scope (compEnvC scope cl C X.env) fp) elt te) (hfn : ∀ y ∈ scope.names, y.2 = .free → X.fn y.1 = true) (hs : ∀ x, foldedSetIterable iter X.env x = pure x)
    (h : tLc wi g tt te (own.map (·.2)) σ H Q)
    (hRR : ∀ D (ce : Env) s' m H', Inv X pins σ H' s' → Q (.ref D) H' → s'.heap.Ns ce.locals m → FpOk X pins H' ce.locals → compEnds (model X.prog X.w) X.A X.xe use Qf (.ref D) ce (.ok .next) s') :
    wpAny (model X.prog X.w) X.A (comprehension (.ListComp elt [⟨tg, iter, ifs, 0⟩] scope pos) scope X.env pos' (newList []) false (eval iter X.env) use) Qf X.xe s := by
  have hfree : ∀ y ∈ scope.names, y.2 = .free → ∃ c, X.env.cells.lookup y.1 = some c := fun y hy e =>
    I.ok.has _ (ok.free y hy e)
  refine comprehension_at (use := use) rfl hs (closure_ok hfree) ok.kind (fun y hy e => by rw [ok.uniq y hy, e])
    (thn (hi.run pins s σ H _ I h) fun xv s1 hx => thn hx fun itv s2 h2 => ?_)
  obtain ⟨it, fp, tn, J, H2, e, I2, T, st2, f2, q⟩ := h2
  subst e
  refine wpAny_newObj_type (newEnv_comp ?_) (by show 0 ≤ sizeLine; decide)
  generalize hD : s2.heap.objs.size = D
  have hDn : H2 D = none := I2.hok.fresh (Nat.le_of_eq hD)
  obtain ⟨W, ⟨m0, w0⟩, turn⟩ := q D hDn
  generalize hs3 : ({ s2 with heap := s2.heap.push { cls := .type "list", data := .seq ([] : List Value).toArray } } : Shared) = s3
  have h3 : s3.heap = s2.heap.push { cls := .type "list", data := .seq ([] : List Value).toArray } := by rw [← hs3]
  have I3 : Inv X pins σ (upd H2 D (.lst [])) s3 := by
    rw [← hs3]
    refine I2.laid (t' := s2.toks) (fun b o e => Heap.get?_push_of_some _ e) (Nat.le_of_eq hD) ⟨Nat.zero_le _, [], 0, .nil, ?_⟩
    rw [← hD]
    exact Heap.get?_push_size _ rfl
  have f3 : ∀ b ∈ fp, FpOk X pins (upd H2 D (.lst [])) b ∧ b < s3.heap.objs.size := fun b hb => by
    obtain ⟨o, e, _⟩ := T.obj _ _ st2 b hb
    have hlt := Heap.lt_size e
    refine ⟨⟨?_, (f2 b hb).2⟩, by rw [h3, Heap.size_push]; exact Nat.lt_succ_of_lt hlt⟩
    rw [upd_ne (by rw [← hD]; exact Nat.ne_of_lt hlt)]
    exact (f2 b hb).1
  have st3 : tn 0 s3.heap := T.keep _ _ _ st2 fun b _ o e => by rw [h3]; exact Heap.get?_push_of_some _ e
  have I4 := block_start I3 ok hN f3
  generalize hcl : cellsFrom (s3.heap.objs.size + 1) scope.names (cloFrom X.env.cells scope.names []) = cl at I4
  have pg := hg s3 (upd H2 D (.lst [])) s3.heap.objs.size cl fp
  have pt := ht s3 (upd H2 D (.lst [])) s3.heap.objs.size cl fp
  have pe := he s3 (upd H2 D (.lst [])) s3.heap.objs.size cl fp
  show codeAny _ _ (.compStart (.ListComp elt [⟨tg, iter, ifs, 0⟩] scope pos) 0 (.ref it) (.ref D) (compEnvC scope cl s3.heap.objs.size X.env)) (compEnds (model X.prog X.w) X.A X.xe use Qf (.ref D) (compEnvC scope cl s3.heap.objs.size X.env)) { s3 with heap := pushCells (s3.heap.push { cls := .type "dict", data := .dict #[] }) scope.names }
  have nfp : ∀ b ∈ fp, (upd H2 D (.lst [])) b = none := fun b hb => (f3 b hb).1.1
  have cF : (compEnvC scope cl s3.heap.objs.size X.env).frame = X.env.frame := rfl
  have cL : (compEnvC scope cl s3.heap.objs.size X.env).locals = s3.heap.objs.size := rfl
  generalize compEnvC scope cl s3.heap.objs.size X.env = ce at I4 pg pt pe cF cL ⊢
  generalize upd H2 D (.lst []) = H3 at I3 I4 pg pt pe w0 nfp f3
  have pe := pe fun y c hy => by
    have le0 : X.s_0.heap.objs.size ≤ s3.heap.objs.size := I3.sz
    have ge : X.s_0.heap.objs.size ≤ c ∧ c ≠ X.env.locals := by
      rw [← hcl, ← Heap.size_push s3.heap { cls := .type "dict", data := .dict #[] }] at hy
      rcases cells_mem (PySem.mem_of_lookup hy) with hm | ⟨_, h2, _⟩
      · rcases cloFrom_mem hm with hm | ⟨h1, rfl⟩
        · cases hm
        · obtain ⟨c, hc⟩ := hfree _ h1 rfl
          rw [hc]
          exact ⟨I3.ok.cab y c (hfn _ h1 rfl) hc, I3.cne y c hc⟩
      · rw [Heap.size_push] at h2
        have := I3.lt
        exact ⟨Nat.le_trans le0 (Nat.le_of_succ_le h2), Nat.ne_of_gt (Nat.lt_of_lt_of_le this (Nat.le_of_succ_le h2))⟩
    refine ⟨?_, fun hin => ?_⟩
    · cases z : X.base.get? c with
      | none => rfl
      | some u => exact absurd (Nat.lt_of_lt_of_le (Heap.lt_size (I3.ok.bs c u z).1) ge.1) (Nat.lt_irrefl _)
    · rcases List.mem_cons.mp (I3.stkSub c hin) with z | z
      · exact ge.2 z
      · obtain ⟨_, o2, q1, _⟩ := I3.ok.funs.mem z
        exact absurd (Nat.lt_of_lt_of_le (Heap.lt_size q1) ge.1) (Nat.lt_irrefl _)
  generalize hs4 : ({ s3 with heap := pushCells (s3.heap.push { cls := .type "dict", data := .dict #[] }) scope.names } : Shared) = s4 at I4 ⊢
  have st4 : tn 0 s4.heap := T.keep _ _ _ st3 fun b _ o e => by rw [← hs4]; exact pushCells_keeps _ _ _ _ (Heap.get?_push_of_some _ e)
  have stat : ∀ {σ' : St} {H' : Hp} {s' : Shared}, Inv (X.blk s3 H3 scope ce fp) [] σ' H' s' → (∀ b ∈ fp, H' b = none) → ∀ b ∈ fp, FpOk (X.blk s3 H3 scope ce fp) [] H' b := fun {σ' H' s'} I' hn b hb =>
    ⟨hn b hb, (I'.ok.exf b hb).1, I'.ok.exfs b hb, .inl hb, fun x c e => (I'.ok.exf b hb).2 x c e, fun p hp => absurd (show p ∈ ([] : List (Addr × Obj)) ++ [] from hp) (by simp)⟩
  have loop : codeAny (model X.prog X.w) X.A (.compLoop (.ListComp elt [⟨tg, iter, ifs, 0⟩] scope pos) 0 (.ref it) (.ref D) ce) (compEnds (model X.prog X.w) X.A X.xe use Qf (.ref D) ce) s4 := by
    refine compLoop_any (fun n s' => ∃ i H', Inv (X.blk s3 H3 scope ce fp) [] (wipe σ (own.map (·.2))) H' s' ∧ tn i s'.heap ∧ (∀ b ∈ fp, H' b = none) ∧ W i n H') ?_ m0 ⟨0, H3, I4, st4, nfp, w0⟩
    rintro n s5 ⟨i, H5, I5, st5, n5, w5⟩
    rcases turn i n H5 w5 with ⟨stop, qq⟩ | ⟨go, Nx, hNx, step⟩
    · refine thnF (T.done (X.blk s3 H3 scope ce fp) rfl rfl rfl hc i [] s5 _ H5 (fun _ _ => False) I5 (stat I5 n5) st5 stop) fun r s6 ⟨hr, I6⟩ => ?_
      subst hr
      have I7 : Inv X pins σ H5 s6 := I3.call' (ch := fp) I6.os I6.base I6.hok I6.bare fun b hb => ⟨(f3 b hb).1.2.2.2.1, (f3 b hb).1.2.1, (f3 b hb).1.2.2.2.2.1, (f3 b hb).1.2.2.2.2.2⟩
      have nC : H5 ce.locals = none := I6.free
      obtain ⟨m, hn, _⟩ := I6.loc
      exact hRR D ce s6 m H5 I7 qq hn (I3.fpOk (by rw [cL]; exact Nat.le_refl _) nC)
    · refine thnF (T.item (X.blk s3 H3 scope ce fp) rfl rfl rfl hc i [] s5 _ H5 (fun _ _ => False) I5 (stat I5 n5) st5 go) fun r s6 ⟨u, hr, h6⟩ => ?_
      subst hr
      refine thnF h6 fun _ s7 ⟨x, H7, I7, r7, y7, st7, n7⟩ => ?_
      have I7' := I7.pinned (stat I7 n7) (T.obj _ _ st7)
      refine thnF (pg.run _ s7 _ H7 x u _ I7' r7 (step x H7 y7)) fun _ s8 ⟨σ8, H8, I8, hw8, q8⟩ => ?_
      refine thnF (pt.run _ s8 σ8 H8 _ I8 q8) fun b s9 ⟨H9, I9, q9⟩ => ?_
      have fin : ∀ {s' : Shared} {H' : Hp}, Inv (X.blk s3 H3 scope ce fp) ([] ++ pinsAt fp s7.heap) σ8 H' s' → Nx H' → ∃ m, m < n ∧ ∃ i H', Inv (X.blk s3 H3 scope ce fp) [] (wipe σ (own.map (·.2))) H' s' ∧ tn i s'.heap ∧ (∀ b ∈ fp, H' b = none) ∧ W i m H' := fun {s' H'} I' nx => by
        obtain ⟨m', hm, w'⟩ := hNx H' nx
        have pin' : ∀ b ∈ fp, ∀ o, s7.heap.get? b = some o → s'.heap.get? b = some o ∧ H' b = none := fun b hb o e =>
          let z := I'.pin (b, o) (List.mem_append_right _ (List.mem_append_right _ (mem_pinsAt hb e)))
          ⟨z.1, z.2.1⟩
        refine ⟨m', hm, i + 1, H', (I'.unpinned (pins := [])).weak (by rw [← hw8, wipe_length]) (fun j v e => ?_), T.keep _ _ _ st7 fun b hb o e => (pin' b hb o e).1, fun b hb => ?_, w'⟩
        · rw [← hw8] at e
          exact (wipe_some e).1
        · obtain ⟨o, e, _⟩ := T.obj _ _ st7 b hb
          exact (pin' b hb o e).2
      cases b with
      | false =>
        simp only [Bool.false_eq_true, if_false] at q9 ⊢
        exact fin I9 q9
      | true =>
        simp only [if_true] at q9 ⊢
        refine thnF (pe.run _ s9 σ8 H9 _ I9 q9) fun z s10 ⟨yv, H10, I10, r10, acc, hD10, hz10, nx⟩ => ?_
        exact app_ok (X := X.blk s3 H3 scope ce fp) I10 hD10 hz10 r10 fun s11 I11 => fin I11 nx
  exact codeAny_compStart_list loop (T.self X.A 0 _ _ _ st4 loop)
/-- name = [..] on one line, the name a local -/
theorem ps_setLcC {i : Nat} {y : Str} {py : Pos} {elt tg iter : Expr} {ifs : List Expr} {scope : Scope} {own : List (Str × Nat)} {pos spos : Pos} {wi : TI} {g : TG} {tt : TT} {te : TE} (hc : X.calm = true) (hN : X.N.Nodup)
    (hy : X.N[i]? = some y) (hyl : X.env.scope.names.lookup y = some .local)
    (hsw : swapsWith (.ListComp elt [⟨tg, iter, ifs, 0⟩] scope pos) (some (.Name y py)) spos.line X.env = pure true) (hi : PI X tg iter wi) (ok : BlkOk X.N X.env.scope scope own)
    (hg : ∀ (s : Shared) (H : Hp) (C : Addr) (cl : List (Str × Addr)) (fp : List Addr), PG (X.blk s H scope (compEnvC scope cl C X.env) fp) tg g) (ht : ∀ (s : Shared) (H : Hp) (C : Addr) (cl : List (Str × Addr)) (fp : List Addr), PTs (X.blk s H scope (compEnvC scope cl C X.env) fp) ifs tt)
    (he : ∀ (s : Shared) (H : Hp) (C : Addr) (cl : List (Str × Addr)) (fp : List Addr), (∀ y c, cl.lookup y = some c → X.base.get? c = none ∧ c ∉ frs X.stack) → PE (X.blk s H scope (compEnvC scope cl C X.env) fp) elt te) (hfn : ∀ y ∈ scope.names, y.2 = .free → X.fn y.1 = true) (hs : ∀ x, foldedSetIterable iter X.env x = pure x := by intro _; rfl) :
    PS X (.Assign [.Name y py] (.ListComp elt [⟨tg, iter, ifs, 0⟩] scope pos) spos) (tAsg (tLc wi g tt te (own.map (·.2))) (gName i)) := by
  refine ⟨fun pins s σ H D I h => ?_⟩
  rw [exec_Assign_Name_used _ _ _ _ hsw]
  refine wpAny_bind (wpAny_standAt (wpAny_bind ?_))
  show wpAny _ X.A (do let _ ← comprehension (.ListComp elt [⟨tg, iter, ifs, 0⟩] scope pos) scope X.env (firstIterPos [⟨tg, iter, ifs, 0⟩] pos) (newList []) false (eval iter X.env) (some (assign (.Name y py) X.env))) _ _ s
  have h : tLc wi g tt te (own.map (·.2)) σ H (fun x H1 => gName i x σ H1 D.nx) := h
  refine wpAny_bind (thn (lcC_core (Qf := fun _ s' => SP X pins D .next s') hc hN I hi ok hg ht he hfn hs h fun L ce s' m H' I' q hn f => ?_) fun _ s' hq => wpAny_pure (wpAny_pure hq))
  show wpAny _ _ (assign (.Name y py) X.env (.ref L)) _ _ _
  refine wpAny_assign_Name (store_ok2 (v := V.ref L) I' hN hy (.inl hyl) rfl (fun s2 I2 ⟨a, sb, ha⟩ => ?_) (.inr hyl))
  obtain ⟨f0, f1, f2, f3, f4, f5⟩ := f
  have haC : ce.locals ≠ a := by
    rcases ha with z | z
    · rw [z]; exact f1
    · exact fun e => f4 y a z e.symm
  refine ⟨m, hn.sameBut sb haC, fun h3 sb3 => ?_⟩
  exact ⟨_, H', I2.turned (t' := s2.toks) (fun b o hb e => (sb3.2 b hb).trans e) f0 f1 f3 f4 f5, q⟩
end
end L2
namespace TG
open PySem PySem.Spec PyProof.Rows L2 NdefX GenW Gx Lv
theorem pe_callH {X : Cx} {names : List Str} {k : Nat} {f : Addr} {fd : FuncData} {ps : List Str} {sp : Sp} {x : Str} {p pos : Pos} {e : Expr} {es : List Expr} {t : L2.TA} (F : FnOk X.prog X.w X.K X.mg X.base CX0 k f fd ps sp) (hr : Room k X.A) (hg : Gl X x) (hm : X.mg x = some (.ref f)) (hk : PySem.W.keepIn X.K (.ref f) = true) (hb : Binds X.K fd ps [])
    (hcl : ∀ y ∈ names, ∀ c, X.env.cells.lookup y = some c → X.base.get? c = none ∧ c ∉ frs X.stack) (hcell : ∀ y ∈ names, X.env.kindOf y = some .cell) (ha : PA X (e :: es) t) (hdb : (x == ("__debug__" : Str)) = false := by decide) (he : starEach (e :: es) X.env = (false, eval e X.env) :: starEach es X.env := by rfl) (hpl : (backTo pos (starEach es X.env)).any (·.1) = false := by rfl) :
    PE X (.Call (.Name x p) (e :: es) [] pos) (tCallC X.env.cells X.N names sp t) := by
  refine ⟨fun pins s σ H Q I h => ?_⟩
  refine wpAny_Call_Name_kw (ld_glob I hg hm ?_ hdb)
  refine PySem.W.callWith_K (h₀ := X.base) I.ok.mod.kin hk (thn (ha.run pos pins s σ H _ I h) fun us s1 ⟨vs, H1, I1, r, q⟩ => ⟨I1.kIn, ?_⟩) he hpl
  show wpAny _ _ (call (.ref f) us) _ _ _
  have has : ∀ y ∈ names, ∃ c v, X.env.cells.lookup y = some c ∧ s1.heap.IsCell c v := fun y hy => by
    obtain ⟨c, hc⟩ := I1.ok.has y (.inl (hcell y hy))
    obtain ⟨v, hv⟩ := I1.cell y c hc
    exact ⟨c, v, hc, hv⟩
  obtain ⟨cl, c1, c2⟩ := cells_list names has
  have un : ∀ c o, cl.lookup c = some o → H1 c = none := fun c o e => by
    obtain ⟨_, y, _, hc⟩ := c1 c o e
    exact I1.freeC y c hc
  have C : CellsIn cl X.base (frs X.stack) s1.heap := ⟨fun c o e => by
    obtain ⟨g1, y, hy, hc⟩ := c1 c o e
    exact ⟨g1, (hcl y hy c hc).1, (hcl y hy c hc).2⟩⟩
  have T : ToldC X.env.cells X.N names σ cl := by
    refine ⟨fun y hy => ?_, fun y hy c o hc ho i v hN hs => ?_, I1.ok.inj⟩
    · obtain ⟨c, hc⟩ := I1.ok.has y (.inl (hcell y hy))
      obtain ⟨v, o2, q1, q2⟩ := I1.cell y c hc
      obtain ⟨o, ho⟩ := c2 y hy c hc
      have z := (c1 c o ho).1
      rw [q1] at z
      cases z
      exact ⟨c, _, v, hc, ho, q2⟩
    · obtain ⟨m, hn, loc⟩ := I1.loc
      obtain ⟨u, ru, lk⟩ := loc i y v hN hs (.inr (.inl (hcell y hy)))
      rcases lk with ⟨z, _⟩ | ⟨_, c', hc', o2, q1, q2⟩
      · rw [hcell y hy] at z; cases z
      · rw [hc] at hc'
        cases hc'
        have z := (c1 c o ho).1
        rw [q1] at z
        cases z
        exact ⟨u, q2, ru⟩
  have sq := q cl T un
  have hl : (us ++ []).length = ps.length := by rw [List.append_nil, ← r.length]; exact F.len _ _ _ _ sq
  have e1 := env_add I1.env0 C un
  have bd := hb s1 us I1.kIn hl
  rw [List.append_nil] at bd
  refine wpAny_call (codeAny_mono (F.run X.A X.stack s1 (addC H1 cl) ⟨us, []⟩ us vs _ _ hr e1 bd r sq) fun r' s' hq => ?_)
  cases r' with
  | error er => exact False.elim hq
  | ok fl =>
    cases fl with
    | ret u => exact I1.after (ce_del C un hq)
    | next => exact False.elim hq
    | brk => exact False.elim hq
    | cont => exact False.elim hq
/-- a reading for any cells -/
theorem pe_any {ι : Type} {X : Cx} {e : Expr} {t : ι → TE} (i : ι) (h : PE X e (t i)) : PE X e (fun σ H Q => ∀ j, t j σ H Q) := ⟨fun pins s σ H Q I q => h.run pins s σ H Q I (q i)⟩
end TG

namespace TG
open PySem PySem.Spec PyProof.Rows L2 NdefX GenW Gx Lv
/-! ### which marks are there (as of two hands) -/
theorem filt_all {p : Nat → Bool} : ∀ {l : List Nat}, (∀ x ∈ l, p x = true) → l.filter p = l
  | [], _ => rfl
  | a :: l, h => by rw [List.filter_cons, if_pos (h a (by simp)), filt_all fun x hx => h x (by simp [hx])]
theorem sgS_len (z : Str) : (sgS z).length = z.length := by unfold sgS; rw [List.length_map, Array.length_toList]; rfl
theorem cl_textR (signs : List Str) (marks : List Nat) : cl (textR signs marks) = (marks.map fun m => cl (signs.getD m "")).flatten := by
  unfold textR
  rw [cl_joinL]
  have e0 : cl ("" : Str) = [] := by decide +kernel
  rw [e0, List.map_map]
  have : ∀ l : List (List Nat), TL.joinL [] l = l.flatten := by
    intro l
    induction l with
    | nil => rfl
    | cons y ys ih =>
      cases ys with
      | nil => simp [TL.joinL]
      | cons x xs =>
        show y ++ ([] ++ TL.joinL [] (x :: xs)) = _
        rw [List.nil_append, ih]
        rfl
  rw [this]
  rfl
theorem drop_idx {s : Nat} : ∀ {l : List Nat}, s ∈ l → ∃ r, l.drop (l.idxOf s) = s :: r
  | a :: l, h => by
    by_cases c : a = s
    · subst c
      exact ⟨l, by simp [List.idxOf_cons]⟩
    · have hm : s ∈ l := by
        rcases List.mem_cons.mp h with e | e
        · exact absurd e.symm c
        · exact e
      obtain ⟨r, hr⟩ := drop_idx hm
      refine ⟨r, ?_⟩
      rw [List.idxOf_cons]
      have : (a == s) = false := by simp [c]
      rw [this]
      exact hr
theorem firstR_self {order : List Nat} {there : List Bool} {s : Nat} (h : s ∈ order) (t : there.getD s false = true) : firstR order there s = s ∧ ∃ m ∈ order.drop (order.idxOf s), there.getD m false = true := by
  obtain ⟨r, hr⟩ := drop_idx h
  unfold firstR
  rw [hr, List.find?_cons, t]
  exact ⟨rfl, s, by simp, t⟩
theorem cl_oneG (c : Nat) : cl (⟨#[c]⟩ : Str) = [c] := rfl
theorem MarkOk.sg {x : Str} (h : MarkOk x) : ∀ c ∈ cl x, SgOk c ∨ c = 9 ∨ c = 10 := by
  intro c hc
  rcases h with h | h | ⟨d, h, hd⟩
  · rw [h, cl_tabS, List.mem_singleton] at hc
    exact .inr (.inl hc)
  · rw [h, cl_lineS, List.mem_singleton] at hc
    exact .inr (.inr hc)
  · rw [h, cl_oneG, List.mem_singleton] at hc
    rw [hc]
    exact .inl hd
/-! ### which marks are there -/
def killD (d : Deed) : Bool := decide (d.2.2.2 = decide (d.2.1 = ""))
def pr (D : List Deed) (m : Nat) : Bool := D.all fun d => !(killD d && decide (d.2.2.1 = m))
theorem set_get {th : List Bool} {i m : Nat} : (th.set i false).getD m false = (th.getD m false && !decide (i = m)) := by
  rw [List.getD_eq_getElem?_getD, List.getD_eq_getElem?_getD]
  by_cases h : i = m
  · subst h
    rw [decide_eq_true rfl, Bool.not_true, Bool.and_false]
    by_cases c : i < th.length
    · rw [List.getElem?_set_self c]
      rfl
    · rw [List.getElem?_eq_none (by rw [List.length_set]; omega)]
      rfl
  · rw [List.getElem?_set_ne h, decide_eq_false h, Bool.not_false, Bool.and_true]
theorem there_fold : ∀ (D : List Deed) (th : List Bool) (m : Nat), (D.foldl markR th).getD m false = (th.getD m false && pr D m)
  | [], th, m => by simp [pr]
  | d :: D, th, m => by
    rw [List.foldl_cons, there_fold D]
    unfold markR pr
    rw [List.all_cons]
    unfold killD
    by_cases c : d.2.2.2 = decide (d.2.1 = "")
    · rw [if_pos c, decide_eq_true c, set_get, Bool.true_and, Bool.and_assoc]
    · rw [if_neg c, decide_eq_false c, Bool.false_and, Bool.not_false, Bool.true_and]
theorem there_pr {many m : Nat} {D : List Deed} (h : m < many) : (thereR many D).getD m false = pr D m := by
  unfold thereR
  rw [there_fold, List.getD_eq_getElem?_getD, List.getElem?_replicate, if_pos h]
  simp
theorem those_pr {many : Nat} {D : List Deed} {order : List Nat} (h : ∀ m ∈ order, m < many) : thoseR order (thereR many D) = order.filter (pr D) := by
  unfold thoseR
  exact List.filter_congr fun m hm => there_pr (h m hm)
theorem pr_out {D : List Deed} {m : Nat} (h : ∀ d ∈ D, d.2.2.1 ≠ m) : pr D m = true := by
  unfold pr
  rw [List.all_eq_true]
  intro d hd
  rw [decide_eq_false (h d hd), Bool.and_false, Bool.not_false]
/-! ### sums of lists -/
theorem take_idx {l : List Nat} {s : Nat} (h : s ∈ l) : ∃ a r, l = a ++ s :: r ∧ s ∉ a ∧ a.length = l.idxOf s := by
  induction l with
  | nil => cases h
  | cons x l ih =>
    by_cases c : x = s
    · subst c
      exact ⟨[], l, rfl, List.not_mem_nil, by simp [List.idxOf_cons]⟩
    · have hm : s ∈ l := by
        rcases List.mem_cons.mp h with e | e
        · exact absurd e.symm c
        · exact e
      obtain ⟨a, r, e1, e2, e3⟩ := ih hm
      refine ⟨x :: a, r, by rw [e1]; rfl, fun z => ?_, ?_⟩
      · rcases List.mem_cons.mp z with e | e
        · exact c e.symm
        · exact e2 e
      · rw [List.idxOf_cons]
        have : (x == s) = false := by simp [c]
        rw [this, List.length_cons, e3]
        rfl
/-- codes of marks -/
def clM (signs : List Str) (M : List Nat) : List Nat := (M.map fun m => cl (signs.getD m "")).flatten
theorem clM_app (signs : List Str) (a b : List Nat) : clM signs (a ++ b) = clM signs a ++ clM signs b := by
  unfold clM
  rw [List.map_append, List.flatten_append]
theorem clM_eq (signs : List Str) (M : List Nat) : cl (textR signs M) = clM signs M := cl_textR signs M
theorem clM_cong {s1 s2 : List Str} {M : List Nat} (h : ∀ m ∈ M, s1.getD m "" = s2.getD m "") : clM s1 M = clM s2 M := by
  unfold clM
  rw [List.map_congr_left fun m hm => by rw [h m hm]]
theorem MarkOk.one {x : Str} (h : MarkOk x) : ∃ c, cl x = [c] := by
  rcases h with h | h | ⟨d, h, hd⟩
  · exact ⟨_, by rw [h, cl_tabS]⟩
  · exact ⟨_, by rw [h, cl_lineS]⟩
  · exact ⟨d, by rw [h, cl_oneG]⟩
theorem MarkOk.ne {x : Str} (h : MarkOk x) : x ≠ "" := fun e => by
  have := h.len
  rw [e] at this
  have e0 : ("" : Str).length = 0 := by decide +kernel
  rw [e0] at this
  cases this
theorem clM_ones {signs : List Str} : ∀ {M : List Nat}, (∀ m ∈ M, MarkOk (signs.getD m "")) → (clM signs M).length = M.length
  | [], _ => rfl
  | m :: M, h => by
    have e : clM signs (m :: M) = cl (signs.getD m "") ++ clM signs M := rfl
    obtain ⟨c, hc⟩ := (h m (by simp)).one
    rw [e, hc, List.length_append, clM_ones fun x hx => h x (by simp [hx])]
    simp [Nat.add_comm]
theorem clM_take {signs : List Str} {M : List Nat} (h : ∀ m ∈ M, MarkOk (signs.getD m "")) (i : Nat) : clM signs (M.take i) = (clM signs M).take i := by
  have e := clM_app signs (M.take i) (M.drop i)
  rw [List.take_append_drop] at e
  have l := clM_ones (signs := signs) (M := M.take i) fun m hm => h m (List.mem_of_mem_take hm)
  by_cases c : i ≤ M.length
  · have lc : (clM signs (M.take i)).length = i := by rw [l, List.length_take]; omega
    conv => rhs; rw [e]
    exact (List.take_left' lc).symm
  · rw [List.take_of_length_le (by omega : M.length ≤ i), List.take_of_length_le (by rw [clM_ones h]; omega)]
theorem clM_drop {signs : List Str} {M : List Nat} (h : ∀ m ∈ M, MarkOk (signs.getD m "")) (i : Nat) : clM signs (M.drop i) = (clM signs M).drop i := by
  have e := clM_app signs (M.take i) (M.drop i)
  rw [List.take_append_drop] at e
  have l := clM_ones (signs := signs) (M := M.take i) fun m hm => h m (List.mem_of_mem_take hm)
  by_cases c : i ≤ M.length
  · have lc : (clM signs (M.take i)).length = i := by rw [l, List.length_take]; omega
    conv => rhs; rw [e]
    exact (List.drop_left' lc).symm
  · rw [List.drop_of_length_le (by omega : M.length ≤ i), List.drop_of_length_le (by rw [clM_ones h]; omega)]
    rfl
theorem pr_app (D : List Deed) (d : Deed) (m : Nat) : pr (D ++ [d]) m = (pr D m && !(killD d && decide (d.2.2.1 = m))) := by
  unfold pr
  rw [List.all_append]
  simp
end TG


namespace TG
open PySem PySem.Spec PyProof.Rows L2 NdefX GenW Gx Lv Dl
section
variable {P : Program} {w : World} {K : PySem.W.Frag} {mg : Str → Option Value} {base : Heap} {cs : List (Addr × Addr)} {B C G : Addr}
/-! ### where the cells begin -/
def spTBegins (K : PySem.W.Frag) (cs : List (Addr × Addr)) (B : Addr) : Sp := fun vs H Q _ => ∃ (tb : Addr) (a : TA) (S : TSt) (gap least : Int), vs = [.ref tb] ∧ Tabs cs H ∧ TabD B H tb a S ∧ TOk S ∧ StyleAt K H a.st gap least ∧ PgOk (rowsT (textR S.signs (hereR S))) ∧
  ∀ (r : Addr) (es : List Addr) (H' : Hp), Ex cs H H' → H r = none → (∀ e ∈ es, H e = none) → ToldAt H' r es (begsR (rowsT (textR S.signs (hereR S))) gap least) (rowsT (textR S.signs (hereR S))).length → Q (.ref r) H'
theorem sc_tbegins : FnScope ["self"] ["self"] (defScope (mth nTable 9)) := ⟨rfl, rfl, rfl, by decide +kernel, rfl, by decide +kernel, by decide +kernel⟩
theorem ok_tbegins {f g1 g2 : Addr} {fd fd1 fd2 : FuncData} (X : TabC K B) (F : Fun K "begins" "Table.begins" (mth nTable 9) f fd)
    (M1 : Meth K B "page" g1) (G1 : FnOk P w K mg base CX0 3 g1 fd1 ["self"] (spTPage cs B)) (b1 : Binds K fd1 ["self"] [])
    (G2 : FnOk P w K mg base CX0 14 g2 fd2 ["page", "style"] (spTold K cs begsR)) (k2 : PySem.W.keepIn K (.ref g2) = true) (b2 : Binds K fd2 ["page", "style"] []) (m2 : mg "laid" = some (.ref g2)) : FnOk P w K mg base CX0 15 f fd ["self"] (spTBegins K cs B) := by
  refine F.ok sc_tbegins (fun vs H Q E h => ?_) (fun cdv A outer s H vs Q E hr h => ?_)
  · obtain ⟨tb, a, S, gap, least, rfl, _⟩ := h
    rfl
  · obtain ⟨tb, a, S, gap, least, rfl, hT, hD, hO, hS, hP, k⟩ := h
    have r3 : Room 3 _ := hr.mono (by decide)
    refine ⟨_, pss_one (ps_ret (pe_call G2 hr (by rfl) m2 k2 b2 .nil pass0 (pa_cons (pe_meth0 (pv 0) X.cls M1 G1 r3 b1 .nil pass0) (pa_cons (pe_fld (pv 0) rfl) pa_nil)))), ?_⟩
    refine ⟨_, rfl, tb, a.dx, _, rfl, hD.ob, rfl, tb, a, S, rfl, hT, hD, hO, fun r ps H1 x1 nr hr1 hp1 => ?_⟩
    refine ⟨_, rfl, tb, B, a.dx, _, _, rfl, x1.any hD.ob (.inl fun ps z => nomatch z), X.cls, X.nStyle, rfl, r, a.st, ps, _, gap, least, rfl, x1.tab, pageAt_of hr1 hp1, hP, ⟨x1.sqT hS.tup, hS.g0, hS.g1, hS.l0, hS.l1⟩, fun r2 es H2 x2 nr2 nes tA => k r2 es H2 (x1.trans x2) (x1.old _ nr2) (fun e he => x1.old _ (nes e he).1) tA⟩
def spTLeft (cs : List (Addr × Addr)) (B : Addr) : Sp := fun vs H Q _ => ∃ (tb : Addr) (h : Nat) (a : TA) (S : TSt), vs = [.ref tb, .int (h : Nat)] ∧ Tabs cs H ∧ TabD B H tb a S ∧ TOk S ∧ h < S.spots.length ∧ Went cs B H tb a (goR1 S h (-1)).2 fun H' => Q (.bl (goR1 S h (-1)).1) H'
theorem sc_tleft : FnScope ["self", "hand"] ["self", "hand"] (defScope (mth nTable 5)) := ⟨rfl, rfl, rfl, by decide +kernel, rfl, by decide +kernel, by decide +kernel⟩
theorem ok_tleft {f g1 g2 : Addr} {fd fd1 fd2 : FuncData} (X : TabC K B) (F : Fun K "left" "Table.left" (mth nTable 5) f fd)
    (M1 : Meth K B "check_hand" g1) (G1 : FnOk P w K mg base CX0 2 g1 fd1 ["self", "hand"] (spHand B)) (b1 : Binds K fd1 ["self", "hand"] [])
    (M2 : Meth K B "go" g2) (G2 : FnOk P w K mg base CX0 4 g2 fd2 ["self", "hand", "by"] (spGo cs B)) (b2 : Binds K fd2 ["self", "hand", "by"] []) : FnOk P w K mg base CX0 5 f fd ["self", "hand"] (spTLeft cs B) := by
  refine F.ok sc_tleft (fun vs H Q E h => ?_) (fun cdv A outer s H vs Q E hr h => ?_)
  · obtain ⟨tb, h, a, S, rfl, _⟩ := h
    rfl
  · obtain ⟨tb, h, a, S, rfl, hT, hD, hO, hh, k⟩ := h
    have r2 : Room 2 _ := hr.mono (by decide)
    refine ⟨_, pss_cons (ps_expr (pe_meth (pv 0) X.cls M1 G1 r2 b1 .nil pass0 (pa_cons (pv 1) pa_nil))) (pss_one (ps_ret (pe_meth (pv 0) X.cls M2 G2 hr b2 .nil pass0 (pa_cons (pv 1) (pa_cons (pe_un un_neg pe_int) pa_nil))))), ?_⟩
    exact ⟨_, rfl, tb, a.dx, _, rfl, hD.ob, rfl, _, rfl, tb, h, a, S, rfl, hD, hh, _, rfl, tb, a.dx, _, rfl, hD.ob, rfl, _, rfl, 1, rfl, tb, h, -1, a, S, rfl, hT, hD, hO, hh, k⟩
end
end TG

namespace TG
open PySem PySem.Spec PyProof.Rows L2 NdefX GenW Gx Lv Dl
theorem str_of {a b : Str} (h : cl a = cl b) : a = b := by
  obtain ⟨⟨a⟩⟩ := a
  obtain ⟨⟨b⟩⟩ := b
  have : a = b := h
  rw [this]
/-! ### marks, whoever laid them -/
structure MkN (signs : List Str) (O : List Nat) (n0 : Nat) (D : List Deed) : Prop where
  nd : (O ++ [n0]).Nodup
  lt : ∀ m ∈ O ++ [n0], m < signs.length
  sg : ∀ m ∈ O, MarkOk (signs.getD m "")
  en : signs.getD n0 "" = ""
  one : ∀ z ∈ signs, z.length ≤ 1
  dm : ∀ d ∈ D, d.2.2.1 ∈ O
  lo : O.length + 1 ≤ signs.length
  ls : signs.length ≤ 4000
  lD : D.length ≤ 1000
def hM (O : List Nat) (D : List Deed) : List Nat := O.filter (pr D)
section
variable {signs : List Str} {O : List Nat} {n0 : Nat} {D : List Deed}
theorem MkN.n0O (t : MkN signs O n0 D) : n0 ∉ O := fun h => by
  have := (List.nodup_append.mp t.nd).2.2 n0 h n0 (by simp)
  exact this rfl
theorem MkN.prn (t : MkN signs O n0 D) : pr D n0 = true := pr_out fun d hd e => t.n0O (e ▸ t.dm d hd)
theorem MkN.those (t : MkN signs O n0 D) : thoseR (O ++ [n0]) (thereR signs.length D) = hM O D ++ [n0] := by
  rw [those_pr t.lt, List.filter_append, filt_all (l := [n0]) fun x hx => by rw [List.mem_singleton] at hx; rw [hx]; exact t.prn]
  rfl
theorem hM_mem {m : Nat} (h : m ∈ hM O D) : m ∈ O ∧ pr D m = true := List.mem_filter.mp h
theorem MkN.sgM (t : MkN signs O n0 D) : ∀ m ∈ hM O D, MarkOk (signs.getD m "") := fun m hm => t.sg m (hM_mem hm).1
theorem MkN.text (t : MkN signs O n0 D) : cl (textR signs (hM O D ++ [n0])) = clM signs (hM O D) := by
  rw [clM_eq, clM_app]
  have e : clM signs [n0] = [] := by
    show cl (signs.getD n0 "") ++ [] = []
    rw [t.en]
    decide +kernel
  rw [e, List.append_nil]
theorem MkN.tx (t : MkN signs O n0 D) : TxtSg (textR signs (hM O D ++ [n0])) := fun c hc => by
  rw [t.text] at hc
  unfold clM at hc
  obtain ⟨l, hl, hc⟩ := List.mem_flatten.mp hc
  obtain ⟨m, hm, rfl⟩ := List.mem_map.mp hl
  exact (t.sgM m hm).sg c hc
theorem MkN.rows (t : MkN signs O n0 D) : pageR signs (O ++ [n0]) D = rowsT (textR signs (hM O D ++ [n0])) := by
  unfold pageR
  rw [t.those]
theorem MkN.set (t : MkN signs O n0 D) {S : TSt} (hs : ∀ s ∈ S.spots, s ∈ O ++ [n0]) (h4 : S.spots.length ≤ 4) : SetPre S signs (O ++ [n0]) D := by
  have lo := t.lo
  have ls := t.ls
  have lD := t.lD
  refine ⟨t.one, by omega, t.lt, by rw [List.length_append]; show O.length + 1 ≤ 9000; omega, fun d hd => t.lt _ (List.mem_append_left _ (t.dm d hd)), by omega, fun s h => ⟨hs s h, n0, ?_, ?_⟩, by rw [t.those]; exact t.tx, h4⟩
  · obtain ⟨a, r, e1, e2, e3⟩ := take_idx (hs s h)
    have la : a.length ≤ O.length := by
      have := congrArg List.length e1
      rw [List.length_append, List.length_append] at this
      simp at this
      omega
    rw [← e3, List.drop_append_of_le_length la]
    exact List.mem_append_right _ (by simp)
  · rw [there_pr (t.lt n0 (by simp))]
    exact t.prn
end
/-! ### what is laid, and stands -/
section
variable {s : Str}
theorem killP {h N : Nat} (hs : MarkOk s) (b : Bool) : killD (h, s, N, b) = !b := by
  unfold killD
  have : decide (s = "") = false := decide_eq_false hs.ne
  show decide (b = decide (s = "")) = !b
  rw [this]
  cases b <;> rfl
theorem killR {h N : Nat} (b : Bool) : killD (h, ("" : Str), N, b) = b := by
  unfold killD
  show decide (b = decide (("" : Str) = "")) = b
  rw [decide_eq_true (rfl : ("" : Str) = "")]
  cases b <;> rfl
theorem sg_old {signs : List Str} {s : Str} {m : Nat} (h : m < signs.length) : (signs ++ [s]).getD m "" = signs.getD m "" := by
  rw [List.getD_eq_getElem?_getD, List.getElem?_append_left h, ← List.getD_eq_getElem?_getD]
theorem sg_new {signs : List Str} {s : Str} : (signs ++ [s]).getD signs.length "" = s := by
  rw [List.getD_eq_getElem?_getD, List.getElem?_append_right (Nat.le_refl _), Nat.sub_self]
  rfl
theorem pr_new {D : List Deed} {h N m : Nat} (hs : MarkOk s) : pr (D ++ [((h, s, N, true) : Deed)]) m = pr D m := by
  rw [pr_app, killP hs]
  simp
end
def txt (S : TSt) : Str := textR S.signs (hereR S)
theorem MkN.of {signs : List Str} {O : List Nat} {n0 : Nat} {D : List Deed} (t : MkN signs O n0 D) {D' : List Deed} (l : D'.length = D.length) (h : ∀ d ∈ D', ∃ e ∈ D, d.2.2.1 = e.2.2.1) : MkN signs O n0 D' :=
  ⟨t.nd, t.lt, t.sg, t.en, t.one, fun d hd => by
    obtain ⟨e, he, e1⟩ := h d hd
    rw [e1]
    exact t.dm e he, t.lo, t.ls, by rw [l]; exact t.lD⟩
theorem idx_unique {l : List Nat} (h : l.Nodup) {x i : Nat} (hx : x ∈ l) (h2 : l[i]? = some x) : l.idxOf x = i := by
  obtain ⟨g1, _, _⟩ := idx_nat hx
  exact nodup_inj h g1 h2
section
variable {S : TSt} {O : List Nat} {n0 h : Nat} {s : Str}
/-- the marks with one more -/
abbrev ins (O : List Nat) (i N : Nat) : List Nat := O.take i ++ [N] ++ O.drop i
theorem ins_mem {O : List Nat} {i N m : Nat} : m ∈ ins O i N ↔ m ∈ O ∨ m = N := by
  rw [List.mem_append, List.mem_append, List.mem_singleton]
  constructor
  · rintro ((h | h) | h)
    · exact .inl (List.mem_of_mem_take h)
    · exact .inr h
    · exact .inl (List.mem_of_mem_drop h)
  · rintro (h | h)
    · rw [← List.take_append_drop i O] at h
      rcases List.mem_append.mp h with q | q
      · exact .inl (.inl q)
      · exact .inr q
    · exact .inl (.inr h)
theorem ins_perm {O : List Nat} {i N : Nat} : (ins O i N).Perm (N :: O) := by
  have := List.perm_middle (a := N) (l₁ := O.take i) (l₂ := O.drop i)
  rw [List.take_append_drop] at this
  show (O.take i ++ [N] ++ O.drop i).Perm _
  rw [List.append_assoc]
  exact this
end
theorem turn_P (k : Nat) (b : Bool) (S1 : TSt) : ∀ d ∈ turnR S1 k b, ∃ e ∈ S1.deeds, d.2.2.1 = e.2.2.1 := fun d hd => by
  unfold turnR at hd
  cases e : S1.deeds[k]? with
  | none => rw [e] at hd; exact ⟨d, hd, rfl⟩
  | some x =>
    rw [e] at hd
    rcases List.mem_or_eq_of_mem_set hd with q | q
    · exact ⟨d, q, rfl⟩
    · exact ⟨x, List.mem_of_getElem? e, by rw [q]⟩
theorem MkN.setT {S1 : TSt} {O1 : List Nat} (mk : MkN S1.signs O1 n0 S1.deeds) (od : S1.order = O1 ++ [n0]) (sp : ∀ x ∈ S1.spots, x ∈ O1 ++ [n0]) (h4 : S1.spots.length ≤ 4) (k : Nat) (b : Bool) : SetPre S1 S1.signs S1.order (turnR S1 k b) := by
  rw [od]
  exact (mk.of (turnR_len S1 k b) (turn_P k b S1)).set sp h4
/-! ### a table of several hands, whoever laid, rubbed, took back -/
structure GP (S : TSt) (O : List Nat) (n0 : Nat) : Prop where
  m1 : MkN S.signs O n0 S.deeds
  ord : S.order = O ++ [n0]
  th : S.there = thereR S.signs.length S.deeds
  sp : ∀ s ∈ S.spots, s ∈ hM O S.deeds ++ [n0]
  un : ∀ l ∈ S.undone, l.length ≤ 9000 ∧ ∀ n ∈ l, n < S.deeds.length
  hn : S.spots.length = S.undone.length
  h4 : S.spots.length ≤ 4
  pg : PgOk (pageR S.signs S.order S.deeds)
section
variable {S : TSt} {O : List Nat} {n0 h : Nat} {s : Str}
theorem GP.here (t : GP S O n0) : hereR S = hM O S.deeds ++ [n0] := by
  unfold hereR
  rw [t.ord, t.th, t.m1.those]
theorem GP.tok (t : GP S O n0) : TOk S := by
  have lo := t.m1.lo
  have ls := t.m1.ls
  have lD := t.m1.lD
  refine ⟨t.m1.one, by omega, by rw [t.ord]; exact t.m1.lt, by rw [t.ord, List.length_append]; show O.length + 1 ≤ 9000; omega, by rw [t.th]; exact thereR_len _ _, fun d hd => t.m1.lt _ (List.mem_append_left _ (t.m1.dm d hd)), by omega, fun x hx => ?_, t.hn, t.h4, t.un⟩
  have e := t.here
  unfold hereR at e
  rw [e]
  exact t.sp x hx
theorem GP.spO (t : GP S O n0) : ∀ s ∈ S.spots, s ∈ O ++ [n0] := fun s hs => by
  rcases List.mem_append.mp (t.sp s hs) with q | q
  · exact List.mem_append_left _ (hM_mem q).1
  · exact List.mem_append_right _ q
/-- the page that is there -/
theorem GP.page (t : GP S O n0) : PgOk (rowsT (textR S.signs (hereR S))) := by
  have := t.pg
  unfold pageR at this
  unfold hereR
  rw [t.th]
  exact this
/-- signs, order and deeds make the page -/
theorem GP.rows (t : GP S O n0) : rowsT (textR S.signs (hereR S)) = pageR S.signs S.order S.deeds := by
  unfold hereR pageR
  rw [t.th]
theorem settle_gp {signs : List Str} {D : List Deed} {U : List (List Nat)} (mk : MkN signs O n0 D) (hs : ∀ s ∈ S.spots, s ∈ O ++ [n0]) (h4 : S.spots.length ≤ 4) (hn : S.spots.length = U.length) (hu : ∀ l ∈ U, l.length ≤ 9000 ∧ ∀ n ∈ l, n < D.length) (pg : PgOk (pageR signs (O ++ [n0]) D)) :
    GP { settleR S signs (O ++ [n0]) D with undone := U } O n0 := by
  refine ⟨mk, rfl, rfl, fun x hx => ?_, hu, ?_, ?_, pg⟩
  · obtain ⟨y, hy, rfl⟩ := List.mem_map.mp (show x ∈ S.spots.map (firstR (O ++ [n0]) (thereR signs.length D)) from hx)
    have := firstR_mem ((mk.set hs h4).sp y hy).2
    rw [mk.those] at this
    exact this
  · show (S.spots.map _).length = U.length
    rw [List.length_map]
    exact hn
  · show (S.spots.map _).length ≤ 4
    rw [List.length_map]
    exact h4
theorem MkN.more {signs : List Str} {D : List Deed} (t : MkN signs O n0 D) (i : Nat) (hs : MarkOk s) (b : Bool) (l1 : signs.length ≤ 3900) (l2 : D.length ≤ 900) : MkN (signs ++ [s]) (ins O i signs.length) n0 (D ++ [((h, s, signs.length, b) : Deed)]) := by
  have lS : (signs ++ [s]).length = signs.length + 1 := by rw [List.length_append]; rfl
  have NO : signs.length ∉ O := fun z => absurd (t.lt _ (List.mem_append_left _ z)) (Nat.lt_irrefl _)
  have ndO : O.Nodup := (List.nodup_append.mp t.nd).1
  have len : (ins O i signs.length).length = O.length + 1 := by rw [ins_perm.length_eq]; rfl
  refine ⟨?_, fun m hm => ?_, fun m hm => ?_, ?_, fun z hz => ?_, fun d hd => ?_, ?_, ?_, ?_⟩
  · rw [List.nodup_append]
    refine ⟨ins_perm.nodup_iff.mpr (List.nodup_cons.mpr ⟨NO, ndO⟩), by simp, fun a ha b hb e => ?_⟩
    rw [List.mem_singleton] at hb
    rw [hb] at e
    rcases ins_mem.mp ha with q | q
    · exact t.n0O (e ▸ q)
    · have := t.lt n0 (by simp)
      omega
  · rw [lS]
    rcases List.mem_append.mp hm with q | q
    · rcases ins_mem.mp q with q | q
      · have := t.lt m (List.mem_append_left _ q); omega
      · omega
    · have := t.lt m (List.mem_append_right _ q); omega
  · rcases ins_mem.mp hm with q | q
    · rw [sg_old (t.lt m (List.mem_append_left _ q))]
      exact t.sg m q
    · rw [q, sg_new]
      exact hs
  · rw [sg_old (t.lt n0 (by simp))]
    exact t.en
  · rcases List.mem_append.mp hz with q | q
    · exact t.one z q
    · rw [List.mem_singleton] at q
      rw [q, hs.len]
      decide
  · rcases List.mem_append.mp hd with q | q
    · exact ins_mem.mpr (.inl (t.dm d q))
    · rw [List.mem_singleton] at q
      rw [q]
      exact ins_mem.mpr (.inr rfl)
  · rw [len, lS]
    have := t.lo
    omega
  · rw [lS]; omega
  · rw [List.length_append]
    show D.length + 1 ≤ 1000
    omega
theorem GP.order (t : GP S O n0) (hh : h < S.spots.length) : ∃ i, ordP S h = ins O i S.signs.length ++ [n0] := by
  have hm : S.spots.getD h 0 ∈ O ++ [n0] := t.spO _ (List.mem_of_getElem? (getD_spot hh))
  obtain ⟨_, g2, _⟩ := idx_nat hm
  rw [List.length_append] at g2
  have le : (O ++ [n0]).idxOf (S.spots.getD h 0) ≤ O.length := by
    have : ([n0] : List Nat).length = 1 := rfl
    omega
  refine ⟨(O ++ [n0]).idxOf (S.spots.getD h 0), ?_⟩
  unfold ordP
  rw [t.ord]
  rw [List.take_append_of_le_length le, List.drop_append_of_le_length le]
  simp
theorem GP.set (t : GP S O n0) (hh : h < S.spots.length) (hs : MarkOk s) (l1 : S.signs.length ≤ 3900) (l2 : S.deeds.length ≤ 900) : SetPre S (S.signs ++ [s]) (ordP S h) (deedP S h s) := by
  obtain ⟨i, e⟩ := t.order hh
  have mk : MkN (S.signs ++ [s]) (ins O i S.signs.length) n0 (deedP S h s) := t.m1.more i hs true l1 l2
  rw [e]
  refine mk.set (fun x hx => ?_) t.h4
  rcases List.mem_append.mp (t.spO x hx) with q | q
  · exact List.mem_append_left _ (ins_mem.mpr (.inl q))
  · exact List.mem_append_right _ q
theorem unSet {l : List (List Nat)} {m m2 i : Nat} {x : List Nat} (h : ∀ l1 ∈ l, l1.length ≤ 9000 ∧ ∀ n ∈ l1, n < m) (le : m ≤ m2) (hx : x.length ≤ 9000 ∧ ∀ n ∈ x, n < m2) : ∀ l1 ∈ l.set i x, l1.length ≤ 9000 ∧ ∀ n ∈ l1, n < m2 := fun l1 hl => by
  rcases List.mem_or_eq_of_mem_set hl with q | q
  · exact ⟨(h l1 q).1, fun n hn => Nat.lt_of_lt_of_le ((h l1 q).2 n hn) le⟩
  · rw [q]; exact hx
theorem GP.press (t : GP S O n0) (hh : h < S.spots.length) (hs : MarkOk s) (l1 : S.signs.length ≤ 3900) (l2 : S.deeds.length ≤ 900) (pg : PgOk (pageR (S.signs ++ [s]) (ordP S h) (deedP S h s))) : ∃ O', GP (pressR S h s) O' n0 := by
  obtain ⟨i, e⟩ := t.order hh
  have mk : MkN (S.signs ++ [s]) (ins O i S.signs.length) n0 (deedP S h s) := t.m1.more i hs true l1 l2
  refine ⟨ins O i S.signs.length, ?_⟩
  unfold pressR
  rw [e] at pg ⊢
  refine settle_gp mk (fun x hx => ?_) t.h4 (by rw [List.length_set]; exact t.hn) (unSet t.un (by unfold deedP; rw [List.length_append]; omega) ⟨Nat.zero_le _, fun n hn => nomatch hn⟩) pg
  rcases List.mem_append.mp (t.spO x hx) with q | q
  · exact List.mem_append_left _ (ins_mem.mpr (.inl q))
  · exact List.mem_append_right _ q
theorem GP.nearM (t : GP S O n0) (hh : h < S.spots.length) {m : Nat} (hm : nearR S h (-1) = some m) : m ∈ O := by
  unfold nearR at hm
  rw [t.here] at hm
  split at hm
  · rename_i c
    rw [List.length_append] at c
    have e1 : ([n0] : List Nat).length = 1 := rfl
    rw [e1] at c
    have ix : ((((hM O S.deeds ++ [n0]).idxOf (S.spots.getD h 0) : Nat) : Int) + (-1)).toNat < (hM O S.deeds).length := by
      have hx := t.sp _ (List.mem_of_getElem? (getD_spot hh))
      have := List.idxOf_lt_length_of_mem hx
      rw [List.length_append, e1] at this
      omega
    rw [List.getElem?_append_left ix] at hm
    exact (hM_mem (List.mem_of_getElem? hm)).1
  · cases hm
theorem MkN.rub {signs : List Str} {D : List Deed} (t : MkN signs O n0 D) {m : Nat} (hm : m ∈ O) (l2 : D.length ≤ 900) : MkN signs O n0 (D ++ [((h, ("" : Str), m, true) : Deed)]) := by
  refine ⟨t.nd, t.lt, t.sg, t.en, t.one, fun d hd => ?_, t.lo, t.ls, by rw [List.length_append]; show _ + 1 ≤ 1000; omega⟩
  rcases List.mem_append.mp hd with q | q
  · exact t.dm d q
  · rw [List.mem_singleton] at q
    rw [q]
    exact hm
theorem GP.setR (t : GP S O n0) (hh : h < S.spots.length) {m : Nat} (hm : nearR S h (-1) = some m) (l2 : S.deeds.length ≤ 900) : SetPre S S.signs S.order (S.deeds ++ [((h, ("" : Str), m, true) : Deed)]) := by
  rw [t.ord]
  exact (t.m1.rub (t.nearM hh hm) l2).set t.spO t.h4
theorem GP.rub (t : GP S O n0) (hh : h < S.spots.length) {m : Nat} (hm : nearR S h (-1) = some m) (l2 : S.deeds.length ≤ 900) (pg : PgOk (pageR S.signs S.order (S.deeds ++ [((h, ("" : Str), m, true) : Deed)]))) : GP (rubR S h m) O n0 := by
  unfold rubR
  rw [t.ord] at pg ⊢
  exact settle_gp (t.m1.rub (t.nearM hh hm) l2) t.spO t.h4 (by rw [List.length_set]; exact t.hn) (unSet t.un (by rw [List.length_append]; omega) ⟨Nat.zero_le _, fun n hn => nomatch hn⟩) pg
theorem GP.go (t : GP S O n0) (b : Int) : GP (goR1 S h b).2 O n0 ∧ (goR1 S h b).2.deeds = S.deeds ∧ (goR1 S h b).2.signs = S.signs ∧ (goR1 S h b).2.spots.length = S.spots.length ∧ (goR1 S h b).2.undone = S.undone := by
  unfold goR1
  cases e : nearR S h b with
  | none => exact ⟨t, rfl, rfl, rfl, rfl⟩
  | some m =>
    refine ⟨⟨t.m1, t.ord, t.th, fun x hx => ?_, t.un, by show (S.spots.set h m).length = _; rw [List.length_set]; exact t.hn, by show (S.spots.set h m).length ≤ 4; rw [List.length_set]; exact t.h4, t.pg⟩, rfl, rfl, List.length_set, rfl⟩
    rcases List.mem_or_eq_of_mem_set hx with q | q
    · exact t.sp x q
    · rw [q]
      unfold nearR at e
      split at e
      · have := List.mem_of_getElem? e
        rw [t.here] at this
        exact this
      · cases e
theorem GP.setT (t : GP S O n0) (k : Nat) (b : Bool) : SetPre S S.signs S.order (turnR S k b) := t.m1.setT t.ord t.spO t.h4 k b
theorem GP.turn (t : GP S O n0) (k : Nat) (b : Bool) {U : List (List Nat)} (hn : S.spots.length = U.length) (hu : ∀ l ∈ U, l.length ≤ 9000 ∧ ∀ n ∈ l, n < S.deeds.length) (pg : PgOk (pageR S.signs S.order (turnR S k b))) : GP { settleR S S.signs S.order (turnR S k b) with undone := U } O n0 := by
  rw [t.ord] at pg ⊢
  exact settle_gp (t.m1.of (turnR_len S k b) (turn_P k b S)) t.spO t.h4 hn (by rw [turnR_len]; exact hu) pg
end
/-! ### a deed of a hand -/
inductive Wh where
  | press (s : Str)
  | rub
  | left
  | right
def Wh.vals : Wh → List V
  | .press s => [.str "press", .str s]
  | .rub => [.str "rub"]
  | .left => [.str "left"]
  | .right => [.str "right"]
open Classical in
noncomputable def step4 (S : TSt) (h : Nat) : Wh → Option TSt
  | .press s => if PgOk (pageR (S.signs ++ [s]) (ordP S h) (deedP S h s)) then some (pressR S h s) else none
  | .rub => match nearR S h (-1) with
    | some m => if PgOk (pageR S.signs S.order (S.deeds ++ [((h, ("" : Str), m, true) : Deed)])) then some (rubR S h m) else none
    | none => none
  | .left => some (goR1 S h (-1)).2
  | .right => some (goR1 S h 1).2
def Wh.ok : Wh → Prop
  | .press s => MarkOk s
  | _ => True
/-- all deeds stand -/
structure AllOn (S : TSt) : Prop where
  on : ∀ d ∈ S.deeds, d.2.2.2 = true
  un : ∀ l ∈ S.undone, l = []
  sg : ∀ d ∈ S.deeds, d.2.1 = "" ∨ MarkOk d.2.1
theorem set_nil {l : List (List Nat)} {i : Nat} (h : ∀ x ∈ l, x = []) : ∀ x ∈ l.set i [], x = [] := fun x hx => (List.mem_or_eq_of_mem_set hx).elim (h x) id
theorem step4_gp {S S' : TSt} {O : List Nat} {n0 h : Nat} {wh : Wh} (t : GP S O n0) (a : AllOn S) (ok : wh.ok) (hh : h < S.spots.length) (l1 : S.signs.length ≤ 3900) (l2 : S.deeds.length ≤ 900) (e : step4 S h wh = some S') :
    (∃ O', GP S' O' n0) ∧ AllOn S' ∧ S'.signs.length ≤ S.signs.length + 1 ∧ S'.deeds.length ≤ S.deeds.length + 1 ∧ S'.spots.length = S.spots.length := by
  cases wh with
  | press s =>
    unfold step4 at e
    dsimp only at e
    split at e
    · rename_i pg
      cases e
      refine ⟨t.press hh ok l1 l2 pg, ⟨fun d hd => ?_, set_nil a.un, fun d hd => ?_⟩, ?_, ?_, ?_⟩
      · rcases List.mem_append.mp (show d ∈ S.deeds ++ [((h, s, S.signs.length, true) : Deed)] from hd) with q | q
        · exact a.on d q
        · rw [List.mem_singleton] at q
          rw [q]
      · rcases List.mem_append.mp (show d ∈ S.deeds ++ [((h, s, S.signs.length, true) : Deed)] from hd) with q | q
        · exact a.sg d q
        · rw [List.mem_singleton] at q
          rw [q]
          exact .inr ok
      · show (S.signs ++ [s]).length ≤ _
        rw [List.length_append]
        exact Nat.le_refl _
      · show (S.deeds ++ [((h, s, S.signs.length, true) : Deed)]).length ≤ _
        rw [List.length_append]
        exact Nat.le_refl _
      · show (S.spots.map _).length = _
        rw [List.length_map]
    · cases e
  | rub =>
    unfold step4 at e
    dsimp only at e
    cases c : nearR S h (-1) with
    | none => rw [c] at e; cases e
    | some m =>
      rw [c] at e
      dsimp only at e
      split at e
      · rename_i pg
        cases e
        refine ⟨⟨O, t.rub hh c l2 pg⟩, ⟨fun d hd => ?_, set_nil a.un, fun d hd => ?_⟩, ?_, ?_, ?_⟩
        · rcases List.mem_append.mp (show d ∈ S.deeds ++ [((h, ("" : Str), m, true) : Deed)] from hd) with q | q
          · exact a.on d q
          · rw [List.mem_singleton] at q
            rw [q]
        · rcases List.mem_append.mp (show d ∈ S.deeds ++ [((h, ("" : Str), m, true) : Deed)] from hd) with q | q
          · exact a.sg d q
          · rw [List.mem_singleton] at q
            rw [q]
            exact .inl rfl
        · exact Nat.le_succ _
        · show (S.deeds ++ [((h, ("" : Str), m, true) : Deed)]).length ≤ _
          rw [List.length_append]
          exact Nat.le_refl _
        · show (S.spots.map _).length = _
          rw [List.length_map]
      · cases e
  | left =>
    cases e
    obtain ⟨g, e1, e2, e3, e4⟩ := t.go (h := h) (-1)
    exact ⟨⟨O, g⟩, ⟨by rw [e1]; exact a.on, by rw [e4]; exact a.un, by rw [e1]; exact a.sg⟩, by rw [e2]; exact Nat.le_succ _, by rw [e1]; exact Nat.le_succ _, e3⟩
  | right =>
    cases e
    obtain ⟨g, e1, e2, e3, e4⟩ := t.go (h := h) 1
    exact ⟨⟨O, g⟩, ⟨by rw [e1]; exact a.on, by rw [e4]; exact a.un, by rw [e1]; exact a.sg⟩, by rw [e2]; exact Nat.le_succ _, by rw [e1]; exact Nat.le_succ _, e3⟩
/-! ### a table at its begin -/
theorem sg_getD {z : Str} {m : Nat} : cl ((sgS z ++ [("" : Str)]).getD m "") = (cl z)[m]?.toList := by
  have e0 : cl ("" : Str) = [] := by decide +kernel
  have ez : (cl z).length = z.length := (len_cl z).symm
  rw [List.getD_eq_getElem?_getD]
  by_cases h : m < z.length
  · rw [List.getElem?_append_left (by rw [sgS_len]; exact h)]
    unfold sgS
    rw [List.getElem?_map]
    have e : z.cps.toList[m]? = (cl z)[m]? := rfl
    rw [e, List.getElem?_eq_getElem (by omega)]
    rfl
  · have e : (cl z)[m]? = none := List.getElem?_eq_none (by omega)
    rw [e]
    rw [List.getElem?_append_right (by rw [sgS_len]; omega), sgS_len]
    cases q : ([("" : Str)] : List Str)[m - z.length]? with
    | none => exact e0
    | some x =>
      have := List.mem_of_getElem? q
      rw [List.mem_singleton] at this
      rw [this]
      exact e0
theorem flat_range (l : List Nat) : ∀ (n s : Nat), ((List.range' s n).map fun m => l[m]?.toList).flatten = (l.drop s).take n
  | 0, s => by simp
  | n + 1, s => by
    rw [List.range'_succ, List.map_cons, List.flatten_cons, flat_range l n (s + 1)]
    by_cases h : s < l.length
    · rw [List.getElem?_eq_getElem h, List.drop_eq_getElem_cons h]
      rfl
    · rw [List.getElem?_eq_none (by omega), List.drop_eq_nil_of_le (by omega), List.drop_eq_nil_of_le (by omega)]
      simp
theorem mem_joinL {S : List Nat} {c : Nat} : ∀ {l : List (List Nat)}, c ∈ TL.joinL S l → c ∈ S ∨ ∃ x ∈ l, c ∈ x
  | [], h => by cases h
  | [p], h => .inr ⟨p, by simp, h⟩
  | p :: q :: r, h => by
    have h : c ∈ p ++ (S ++ TL.joinL S (q :: r)) := h
    rw [List.mem_append, List.mem_append] at h
    rcases h with h | h | h
    · exact .inr ⟨p, by simp, h⟩
    · exact .inl h
    · rcases mem_joinL h with z | ⟨x, hx, z⟩
      · exact .inl z
      · exact .inr ⟨x, List.mem_cons_of_mem _ hx, z⟩
theorem page_tx {rows : List (List Str)} (h : PgOk rows) : TxtSg (pageT rows) := fun c hc => by
  unfold pageT at hc
  rw [cl_joinL, cl_lineS] at hc
  rcases mem_joinL hc with z | ⟨x, hx, z⟩
  · rw [List.mem_singleton] at z
    exact .inr (.inr z)
  · obtain ⟨t, ht, rfl⟩ := List.mem_map.mp hx
    obtain ⟨r, hr, rfl⟩ := List.mem_map.mp ht
    unfold rowT at z
    rw [cl_joinL, cl_tabS] at z
    rcases mem_joinL z with z | ⟨x, hx, z⟩
    · rw [List.mem_singleton] at z
      exact .inr (.inl z)
    · obtain ⟨t, ht, rfl⟩ := List.mem_map.mp hx
      exact .inl (((h.rows r hr).cells t ht).sg c z)
theorem mark_of {c : Nat} (h : SgOk c ∨ c = 9 ∨ c = 10) : MarkOk (⟨#[c]⟩ : Str) := by
  rcases h with h | h | h
  · exact .inr (.inr ⟨c, rfl, h⟩)
  · exact .inl (str_of (by rw [h, cl_oneG, cl_tabS]))
  · exact .inr (.inl (str_of (by rw [h, cl_oneG, cl_lineS])))
theorem sg_get {z : Str} {m : Nat} (h : m < z.length) : ∃ c, (cl z)[m]? = some c ∧ (sgS z ++ [("" : Str)]).getD m "" = (⟨#[c]⟩ : Str) := by
  have hl : m < (cl z).length := by rw [Array.length_toList]; exact h
  refine ⟨(cl z)[m], List.getElem?_eq_getElem hl, str_of ?_⟩
  rw [sg_getD, List.getElem?_eq_getElem hl]
  rfl
theorem start_gp {z : Str} {n : Nat} (tz : TxtSg z) (lz : z.length ≤ 2100) (n4 : n ≤ 4) (pz : PgOk (rowsT z)) : GP (startR z n) (List.range z.length) z.length ∧ AllOn (startR z n) ∧ rowsT (textR (startR z n).signs (hereR (startR z n))) = rowsT z := by
  have ls : (sgS z ++ [("" : Str)]).length = z.length + 1 := by rw [List.length_append, sgS_len]; rfl
  have mk : MkN (sgS z ++ [("" : Str)]) (List.range z.length) z.length [] := by
    refine ⟨by rw [← List.range_succ]; exact List.nodup_range, fun m hm => ?_, fun m hm => ?_, ?_, fun x hx => ?_, (fun d hd => nomatch hd), ?_, ?_, by show 0 ≤ 1000; decide⟩
    · show m < (sgS z ++ [("" : Str)]).length
      rw [← List.range_succ, List.mem_range] at hm
      rw [ls]
      exact hm
    · obtain ⟨c, h1, h2⟩ := sg_get (List.mem_range.mp hm)
      show MarkOk ((sgS z ++ [("" : Str)]).getD m "")
      rw [h2]
      exact mark_of (tz c (List.mem_of_getElem? h1))
    · show (sgS z ++ [("" : Str)]).getD z.length "" = ""
      refine str_of ?_
      rw [sg_getD, List.getElem?_eq_none (by rw [Array.length_toList]; exact Nat.le_refl _)]
      decide +kernel
    · rcases List.mem_append.mp hx with q | q
      · unfold sgS at q
        obtain ⟨c, _, rfl⟩ := List.mem_map.mp q
        show 1 ≤ 1
        decide
      · rw [List.mem_singleton] at q
        rw [q]
        decide +kernel
    · show (List.range z.length).length + 1 ≤ (sgS z ++ [("" : Str)]).length
      rw [ls, List.length_range]
      exact Nat.le_refl _
    · show (sgS z ++ [("" : Str)]).length ≤ 4000
      rw [ls]
      omega
  have e0 : hM (List.range z.length) [] = List.range z.length := filt_all fun m _ => rfl
  have er : (startR z n).order = List.range z.length ++ [z.length] := by
    show List.range (z.length + 1) = _
    rw [List.range_succ]
  have eth : (startR z n).there = thereR (sgS z ++ [("" : Str)]).length [] := by
    show List.replicate (z.length + 1) true = List.replicate (sgS z ++ [("" : Str)]).length true
    rw [ls]
  have et : textR (sgS z ++ [("" : Str)]) (List.range z.length ++ [z.length]) = z := by
    refine str_of ?_
    have q := mk.text
    rw [e0] at q
    rw [q]
    have := flat_range (cl z) z.length 0
    rw [List.drop_zero, List.take_of_length_le (by rw [Array.length_toList]; exact Nat.le_refl _)] at this
    refine Eq.trans ?_ this
    unfold clM
    rw [List.range_eq_range']
    exact congrArg List.flatten (List.map_congr_left fun m _ => sg_getD)
  have ep : pageR (startR z n).signs (startR z n).order (startR z n).deeds = rowsT z := by
    rw [er]
    show pageR (sgS z ++ [("" : Str)]) (List.range z.length ++ [z.length]) [] = _
    rw [mk.rows, e0, et]
  have g : GP (startR z n) (List.range z.length) z.length := by
    refine ⟨mk, er, eth, fun x hx => ?_, fun l hl => ?_, ?_, ?_, by rw [ep]; exact pz⟩
    · have : x = 0 := List.eq_of_mem_replicate (show x ∈ List.replicate n 0 from hx)
      show x ∈ hM (List.range z.length) [] ++ [z.length]
      rw [this, e0, ← List.range_succ]
      exact List.mem_range.mpr (Nat.succ_pos _)
    · rw [List.eq_of_mem_replicate (show l ∈ List.replicate n [] from hl)]
      exact ⟨Nat.zero_le _, fun n hn => nomatch hn⟩
    · show (List.replicate n 0).length = (List.replicate n ([] : List Nat)).length
      rw [List.length_replicate, List.length_replicate]
    · show (List.replicate n 0).length ≤ 4
      rw [List.length_replicate]
      exact n4
  exact ⟨g, ⟨fun d hd => (nomatch hd), fun l hl => List.eq_of_mem_replicate (show l ∈ List.replicate n [] from hl), fun d hd => (nomatch hd)⟩, by rw [g.rows, ep]⟩
end TG

namespace TG
open PySem PySem.Spec PyProof.Rows L2 NdefX GenW Gx Lv Dl
/-! ### each hand's own deeds: which stand, which it took back -/
def ownD (D : List Deed) (h : Nat) : List Nat := (List.range D.length).filter fun i => decide ((D.getD i d0).1 = h)
theorem ownD_nd (D : List Deed) (h : Nat) : (ownD D h).Nodup := List.Nodup.sublist List.filter_sublist List.nodup_range
theorem ownD_mem {D : List Deed} {h i : Nat} (m : i ∈ ownD D h) : i < D.length ∧ (D.getD i d0).1 = h := by
  obtain ⟨h1, h2⟩ := List.mem_filter.mp m
  exact ⟨List.mem_range.mp h1, of_decide_eq_true h2⟩
theorem ownD_len (D : List Deed) (h : Nat) : (ownD D h).length ≤ D.length := by
  have := List.length_filter_le (fun i => decide ((D.getD i d0).1 = h)) (List.range D.length)
  rw [List.length_range] at this
  exact this
structure Ph (D0 : List Deed) (S : TSt) : Prop where
  len : S.deeds.length = D0.length
  dd : ∀ i, i < D0.length → S.deeds.getD i d0 = ((D0.getD i d0).1, (D0.getD i d0).2.1, (D0.getD i d0).2.2.1, decide (i ∉ S.undone.getD (D0.getD i d0).1 []))
  un : ∀ h, h < S.undone.length → ∃ k, k ≤ (ownD D0 h).length ∧ S.undone.getD h [] = ((ownD D0 h).drop k).reverse
/-- the list without its tail -/
theorem filtDr {l : List Nat} (nd : l.Nodup) (k : Nat) : l.filter (fun i => decide (i ∉ (l.drop k).reverse)) = l.take k := by
  have nd2 := nd
  rw [← List.take_append_drop k l, List.nodup_append] at nd2
  conv => lhs; arg 2; rw [← List.take_append_drop k l]
  rw [List.filter_append]
  have e1 : (l.take k).filter (fun i => decide (i ∉ (l.drop k).reverse)) = l.take k := by
    refine List.filter_eq_self.mpr fun x hx => decide_eq_true fun z => ?_
    exact nd2.2.2 x hx x (List.mem_reverse.mp z) rfl
  have e2 : (l.drop k).filter (fun i => decide (i ∉ (l.drop k).reverse)) = [] := by
    refine List.filter_eq_nil_iff.mpr fun x hx => ?_
    simp [hx]
  rw [e1, e2, List.append_nil]
theorem filtTk {l : List Nat} (nd : l.Nodup) (k : Nat) : l.filter (fun i => !decide (i ∉ (l.drop k).reverse)) = l.drop k := by
  have nd2 := nd
  rw [← List.take_append_drop k l, List.nodup_append] at nd2
  conv => lhs; arg 2; rw [← List.take_append_drop k l]
  rw [List.filter_append]
  have e1 : (l.take k).filter (fun i => !decide (i ∉ (l.drop k).reverse)) = [] := by
    refine List.filter_eq_nil_iff.mpr fun x hx => ?_
    have : x ∉ l.drop k := fun z => nd2.2.2 x hx x z rfl
    simp [this]
  have e2 : (l.drop k).filter (fun i => !decide (i ∉ (l.drop k).reverse)) = l.drop k := by
    refine List.filter_eq_self.mpr fun x hx => ?_
    simp [hx]
  rw [e1, e2, List.nil_append]
section
variable {D0 : List Deed} {S : TSt} {h : Nat}
theorem Ph.own (p : Ph D0 S) {i : Nat} (hi : i < D0.length) : (S.deeds.getD i d0).1 = (D0.getD i d0).1 ∧ (S.deeds.getD i d0).2.2.2 = decide (i ∉ S.undone.getD (D0.getD i d0).1 []) := by
  rw [p.dd i hi]
  exact ⟨rfl, rfl⟩
theorem Ph.split (p : Ph D0 S) (q : Nat → Bool) : (List.range S.deeds.length).filter (fun i => decide ((S.deeds.getD i d0).1 = h) && q i) = (ownD D0 h).filter q := by
  unfold ownD
  rw [p.len, List.filter_filter]
  refine List.filter_congr fun i hi => ?_
  rw [(p.own (List.mem_range.mp hi)).1, Bool.and_comm]
/-- what stands of a hand: the first ones -/
theorem Ph.mine (p : Ph D0 S) {k : Nat} (e : S.undone.getD h [] = ((ownD D0 h).drop k).reverse) : stR S.deeds h S.deeds.length = (ownD D0 h).take k := by
  unfold stR
  rw [p.split (fun i => (S.deeds.getD i d0).2.2.2), ← filtDr (ownD_nd D0 h) k]
  refine List.filter_congr fun i hi => ?_
  obtain ⟨h1, h2⟩ := ownD_mem hi
  rw [(p.own h1).2, h2, e]
/-- what doesn't: the last ones -/
theorem Ph.lost (p : Ph D0 S) {k : Nat} (e : S.undone.getD h [] = ((ownD D0 h).drop k).reverse) : (List.range S.deeds.length).filter (fun i => decide ((S.deeds.getD i d0).1 = h) && !(S.deeds.getD i d0).2.2.2) = (ownD D0 h).drop k := by
  rw [p.split (fun i => !(S.deeds.getD i d0).2.2.2), ← filtTk (ownD_nd D0 h) k]
  refine List.filter_congr fun i hi => ?_
  obtain ⟨h1, h2⟩ := ownD_mem hi
  rw [(p.own h1).2, h2, e]
theorem turnR_getD {S : TSt} {n i : Nat} {b : Bool} (hn : n < S.deeds.length) : (turnR S n b).getD i d0 = if i = n then ((S.deeds.getD n d0).1, (S.deeds.getD n d0).2.1, (S.deeds.getD n d0).2.2.1, b) else S.deeds.getD i d0 := by
  unfold turnR
  have e : S.deeds[n]? = some S.deeds[n] := List.getElem?_eq_getElem hn
  rw [e]
  dsimp only
  have e2 : S.deeds.getD n d0 = S.deeds[n] := by rw [List.getD_eq_getElem?_getD, e]; rfl
  by_cases c : i = n
  · rw [if_pos c, c, e2, List.getD_eq_getElem?_getD, List.getElem?_set_self hn]
    rfl
  · rw [if_neg c, List.getD_eq_getElem?_getD, List.getElem?_set_ne (fun z => c z.symm), ← List.getD_eq_getElem?_getD]
theorem getD_set {l : List (List Nat)} {i j : Nat} {x : List Nat} (hi : i < l.length) : (l.set i x).getD j [] = if j = i then x else l.getD j [] := by
  by_cases c : j = i
  · rw [if_pos c, c, List.getD_eq_getElem?_getD, List.getElem?_set_self hi]
    rfl
  · rw [if_neg c, List.getD_eq_getElem?_getD, List.getElem?_set_ne (fun z => c z.symm), ← List.getD_eq_getElem?_getD]
/-- one more is taken back, or let stand -/
theorem Ph.turned (p : Ph D0 S) (hh : h < S.undone.length) {k k' n : Nat} {b : Bool} (e : S.undone.getD h [] = ((ownD D0 h).drop k).reverse) (hk' : k' ≤ (ownD D0 h).length) (hn : n ∈ ownD D0 h)
    (hi : ∀ i, i ≠ n → (i ∈ (ownD D0 h).drop k' ↔ i ∈ (ownD D0 h).drop k)) (hb : b = decide (n ∉ (ownD D0 h).drop k')) {S' : TSt} (eD : S'.deeds = turnR S n b) (eU : S'.undone = S.undone.set h ((ownD D0 h).drop k').reverse) : Ph D0 S' := by
  obtain ⟨n1, n2⟩ := ownD_mem hn
  have nS : n < S.deeds.length := by rw [p.len]; exact n1
  refine ⟨by rw [eD, turnR_len, p.len], fun i hi' => ?_, fun g hg => ?_⟩
  · rw [eD, turnR_getD nS, eU, getD_set hh]
    by_cases c : i = n
    · subst c
      rw [if_pos rfl, p.dd i n1, if_pos n2, hb]
      simp only [List.mem_reverse]
    · rw [if_neg c, p.dd i hi']
      by_cases c2 : (D0.getD i d0).1 = h
      · rw [if_pos c2, c2, e]
        simp only [List.mem_reverse, hi i c]
      · rw [if_neg c2]
  · rw [eU, List.length_set] at hg
    rw [eU, getD_set hh]
    by_cases c : g = h
    · rw [if_pos c, c]
      exact ⟨k', hk', rfl⟩
    · rw [if_neg c]
      exact p.un g hg
theorem drop_iff {l : List Nat} (nd : l.Nodup) {k n : Nat} (hn : l[k]? = some n) : (∀ i, i ≠ n → (i ∈ l.drop (k + 1) ↔ i ∈ l.drop k)) ∧ n ∉ l.drop (k + 1) ∧ n ∈ l.drop k := by
  have lt := (List.getElem?_eq_some_iff.mp hn).1
  have e := (List.getElem?_eq_some_iff.mp hn).2
  have ed : l.drop k = n :: l.drop (k + 1) := by rw [List.drop_eq_getElem_cons lt, e]
  refine ⟨fun i hi => ?_, fun z => ?_, by rw [ed]; exact List.mem_cons_self⟩
  · rw [ed, List.mem_cons]
    exact ⟨.inr, fun z => z.resolve_left hi⟩
  · have nd2 : (l.drop k).Nodup := List.Nodup.sublist (List.drop_sublist k l) nd
    rw [ed, List.nodup_cons] at nd2
    exact nd2.1 z
/-- back: the last one that stands -/
theorem Ph.back (p : Ph D0 S) (hh : h < S.undone.length) (l : (S.undone.getD h []).length < (ownD D0 h).length) : ∃ n k, (ownD D0 h)[k]? = some n ∧ S.undone.getD h [] = ((ownD D0 h).drop (k + 1)).reverse ∧ (stR S.deeds h S.deeds.length).getLast? = some n ∧ n < S.deeds.length ∧
    (S.deeds.getD n d0).1 = h ∧ (S.deeds.getD n d0).2.2.2 = true ∧ ∀ S' : TSt, S'.deeds = turnR S n false → S'.undone = S.undone.set h (S.undone.getD h [] ++ [n]) → Ph D0 S' ∧ (S'.undone.getD h []).length = (S.undone.getD h []).length + 1 := by
  obtain ⟨k, hk, e⟩ := p.un h hh
  have nd := ownD_nd D0 h
  have k0 : 0 < k := by
    rw [e, List.length_reverse, List.length_drop] at l
    omega
  obtain ⟨k, rfl⟩ : ∃ j, k = j + 1 := ⟨k - 1, by omega⟩
  have hn : (ownD D0 h)[k]? = some (ownD D0 h)[k] := List.getElem?_eq_getElem (by omega)
  generalize (ownD D0 h)[k] = n at hn
  have mem : n ∈ ownD D0 h := List.mem_of_getElem? hn
  obtain ⟨n1, n2⟩ := ownD_mem mem
  obtain ⟨d1, d2, d3⟩ := drop_iff nd hn
  refine ⟨n, k, hn, e, ?_, by rw [p.len]; exact n1, by rw [(p.own n1).1]; exact n2, ?_, fun S' eD eU => ?_⟩
  · rw [p.mine e, List.take_add_one, hn]
    simp
  · rw [(p.own n1).2, n2, e]
    exact decide_eq_true fun z => d2 (List.mem_reverse.mp z)
  · have er : S.undone.getD h [] ++ [n] = ((ownD D0 h).drop k).reverse := by
      rw [e, List.drop_eq_getElem_cons (i := k) (by omega), List.reverse_cons]
      rw [List.getElem?_eq_getElem (by omega)] at hn
      injection hn with hn
      rw [hn]
    refine ⟨p.turned hh (k := k + 1) (k' := k) (n := n) (b := false) e (by omega) mem (fun i hi => (d1 i hi).symm) (by simp [d3]) eD (by rw [eU, er]), ?_⟩
    rw [eU, getD_set hh, if_pos rfl, List.length_append]
    rfl
/-- again: the first one that doesn't -/
theorem Ph.again (p : Ph D0 S) (hh : h < S.undone.length) (l : 0 < (S.undone.getD h []).length) : ∃ n k, (ownD D0 h)[k]? = some n ∧ S.undone.getD h [] = ((ownD D0 h).drop k).reverse ∧ (S.undone.getD h []).getLast? = some n ∧ n < S.deeds.length ∧
    (S.deeds.getD n d0).1 = h ∧ (S.deeds.getD n d0).2.2.2 = false ∧ ∀ S' : TSt, S'.deeds = turnR S n true → S'.undone = S.undone.set h (S.undone.getD h []).dropLast → Ph D0 S' ∧ (S'.undone.getD h []).length + 1 = (S.undone.getD h []).length := by
  obtain ⟨k, hk, e⟩ := p.un h hh
  have nd := ownD_nd D0 h
  have lk : k < (ownD D0 h).length := by
    rw [e, List.length_reverse, List.length_drop] at l
    omega
  have hn : (ownD D0 h)[k]? = some (ownD D0 h)[k] := List.getElem?_eq_getElem lk
  have ed : (ownD D0 h).drop k = (ownD D0 h)[k] :: (ownD D0 h).drop (k + 1) := List.drop_eq_getElem_cons lk
  generalize (ownD D0 h)[k] = n at hn ed
  have mem : n ∈ ownD D0 h := List.mem_of_getElem? hn
  obtain ⟨n1, n2⟩ := ownD_mem mem
  obtain ⟨d1, d2, d3⟩ := drop_iff nd hn
  refine ⟨n, k, hn, e, ?_, by rw [p.len]; exact n1, by rw [(p.own n1).1]; exact n2, ?_, fun S' eD eU => ?_⟩
  · rw [e, ed, List.reverse_cons]
    simp
  · rw [(p.own n1).2, n2, e]
    simp [d3]
  · have er : (S.undone.getD h []).dropLast = ((ownD D0 h).drop (k + 1)).reverse := by
      rw [e, ed, List.reverse_cons, List.dropLast_concat]
    refine ⟨p.turned hh (k := k) (k' := k + 1) (n := n) (b := true) e (by omega) mem d1 (by simp [d2]) eD (by rw [eU, er]), ?_⟩
    rw [eU, getD_set hh, if_pos rfl, er, e, ed, List.length_reverse, List.length_reverse]
    rfl
/-- as many taken back of each hand: the same -/
theorem Ph.same {S1 S2 : TSt} (p : Ph D0 S1) (q : Ph D0 S2) (l : S1.undone.length = S2.undone.length) (e : ∀ h, h < S1.undone.length → (S1.undone.getD h []).length = (S2.undone.getD h []).length) : S1.deeds = S2.deeds := by
  have eu : ∀ h, S1.undone.getD h [] = S2.undone.getD h [] := fun h => by
    by_cases c : h < S1.undone.length
    · obtain ⟨k, hk, e1⟩ := p.un h c
      obtain ⟨k2, hk2, e2⟩ := q.un h (by rw [← l]; exact c)
      have := e h c
      rw [e1, e2, List.length_reverse, List.length_reverse, List.length_drop, List.length_drop] at this
      have : k = k2 := by omega
      rw [e1, e2, this]
    · rw [List.getD_eq_getElem?_getD, List.getD_eq_getElem?_getD, List.getElem?_eq_none (by omega), List.getElem?_eq_none (by omega)]
  refine List.ext_getElem (by rw [p.len, q.len]) fun i h1 h2 => ?_
  have hi : i < D0.length := by rw [← p.len]; exact h1
  have a := p.dd i hi
  have b := q.dd i hi
  rw [eu] at a
  rw [← b] at a
  rw [List.getD_eq_getElem?_getD, List.getD_eq_getElem?_getD, List.getElem?_eq_getElem h1, List.getElem?_eq_getElem h2] at a
  exact a
theorem Ph.start {S : TSt} (a : AllOn S) : Ph S.deeds S := by
  have un : ∀ h, S.undone.getD h [] = [] := fun h => by
    rw [List.getD_eq_getElem?_getD]
    cases e : S.undone[h]? with
    | none => rfl
    | some l => exact a.un l (List.mem_of_getElem? e)
  refine ⟨rfl, fun i hi => ?_, fun h hh => ⟨(ownD S.deeds h).length, Nat.le_refl _, by rw [un, List.drop_length]; rfl⟩⟩
  rw [un]
  have e : S.deeds.getD i d0 = S.deeds[i] := by rw [List.getD_eq_getElem?_getD, List.getElem?_eq_getElem hi]; rfl
  have := a.on _ (List.getElem_mem hi)
  rw [← e] at this
  simp only [List.not_mem_nil, not_false_eq_true, decide_true]
  rw [← this]
/-- all let stand again: as at first -/
theorem Ph.all (p : Ph D0 S) (on : ∀ d ∈ D0, d.2.2.2 = true) (e : ∀ h, h < S.undone.length → (S.undone.getD h []).length = 0) : S.deeds = D0 := by
  have un : ∀ h, S.undone.getD h [] = [] := fun h => by
    by_cases c : h < S.undone.length
    · exact List.eq_nil_of_length_eq_zero (e h c)
    · rw [List.getD_eq_getElem?_getD, List.getElem?_eq_none (by omega)]
      rfl
  refine List.ext_getElem p.len fun i h1 h2 => ?_
  have a := p.dd i h2
  rw [un] at a
  simp only [List.not_mem_nil, not_false_eq_true, decide_true] at a
  have e2 : D0.getD i d0 = D0[i] := by rw [List.getD_eq_getElem?_getD, List.getElem?_eq_getElem h2]; rfl
  have := on _ (List.getElem_mem h2)
  rw [← e2] at this
  rw [← this] at a
  rw [List.getD_eq_getElem?_getD, List.getElem?_eq_getElem h1] at a
  rw [← e2]
  exact a
end
end TG

namespace TG
open PySem PySem.Spec PyProof.Rows L2 NdefX GenW Gx Lv Dl
/-! ### an order of the hands, each as often as it is due -/
theorem kb_old {b l c : Addr} {H H' : Hp} (x : KB b l H H') (h : BoxAt H' b l) (n : H' c = none) : H c = none := by
  obtain ⟨ns, s1, e1, e2, _⟩ := h
  cases e : H c with
  | none => rfl
  | some o =>
    have nb : c ≠ b := fun z => by rw [z, e1] at n; cases n
    have nl : c ≠ l := fun z => by rw [z, e2] at n; cases n
    rw [x _ _ e nb nl] at n
    cases n
theorem kb_km' {b l : Addr} {H H' : Hp} (x : KB b l H H') : KM (fun c => c = b ∨ c = l) H H' := fun c o h _ n => x c o h (fun z => n (.inl z)) fun z => n (.inr z)
theorem box_mob' {b l : Addr} {H : Hp} (h : BoxAt H b l) : Mob H (fun c => c = b ∨ c = l) := by
  obtain ⟨ns, s1, e1, e2, _⟩ := h
  exact fun c z => .inl (z.elim (fun e => e ▸ ⟨_, e1⟩) fun e => e ▸ ⟨_, e2⟩)
theorem box_same' {b l : Addr} {H H' : Hp} (h : BoxAt H b l) (x : Same H H') : BoxAt H' b l := by
  obtain ⟨ns, s1, e1, e2, e3⟩ := h
  exact ⟨ns, s1, x _ _ e1, x _ _ e2, e3⟩
theorem box_upd' {b l p : Addr} {o : HO} {H : Hp} (h : BoxAt H b l) (n1 : p ≠ b) (n2 : p ≠ l) : BoxAt (upd H p o) b l := by
  obtain ⟨ns, s1, e1, e2, e3⟩ := h
  exact ⟨ns, s1, by rw [upd_ne n1.symm]; exact e1, by rw [upd_ne n2.symm]; exact e2, e3⟩
theorem box_ne' {b l c : Addr} {H : Hp} (h : BoxAt H b l) (n : H c = none) : c ≠ b ∧ c ≠ l := by
  obtain ⟨ns, s1, e1, e2, _⟩ := h
  exact ⟨(fun z => by rw [z, e1] at n; cases n), (fun z => by rw [z, e2] at n; cases n)⟩
theorem count_erase : ∀ (L : List Nat) (r : Nat) (hr : r < L.length) (h : Nat), (L.eraseIdx r).count h + (if L[r] = h then 1 else 0) = L.count h
  | [], r, hr, h => by cases hr
  | a :: l, 0, hr, h => by
    show l.count h + (if a = h then 1 else 0) = (a :: l).count h
    rw [List.count_cons]
    by_cases c : a = h
    · simp [c]
    · simp [c]
  | a :: l, r + 1, hr, h => by
    have hr' : r < l.length := Nat.lt_of_succ_lt_succ hr
    have ih := count_erase l r hr' h
    show (a :: l.eraseIdx r).count h + (if l[r] = h then 1 else 0) = (a :: l).count h
    rw [List.count_cons, List.count_cons]
    omega
theorem rep_flat {α : Type} (x : α) : ∀ n : Nat, (List.replicate n [x]).flatten = List.replicate n x
  | 0 => rfl
  | n + 1 => by rw [List.replicate_succ, List.flatten_cons, rep_flat x n, List.replicate_succ]; rfl
theorem seq_at {i : Int} {n : Nat} (h0 : 0 ≤ i) (h1 : i < (n : Nat)) : seqIndex? i n = some i.toNat := by
  unfold seqIndex?
  have a : ¬ i < 0 := by omega
  simp only [a, if_false]
  have c : (decide (0 ≤ i) && decide (i < (n : Int))) = true := by rw [decide_eq_true h0, decide_eq_true h1]; rfl
  rw [if_pos c]
theorem er_map {α β : Type} (f : α → β) : ∀ (l : List α) (k : Nat), (l.map f).eraseIdx k = (l.eraseIdx k).map f
  | [], k => by simp
  | a :: l, 0 => by simp
  | a :: l, k + 1 => by simp [er_map f l k]
theorem nV_erase (L : List Nat) (r : Nat) : (nV L).eraseIdx r = nV (L.eraseIdx r) := er_map _ L r
theorem nV_app (a b : List Nat) : nV a ++ nV b = nV (a ++ b) := by unfold nV; rw [List.map_append]
def intsD (L : List Nat) : PyData := .list ((L.map fun n => ((n : Nat) : Int)).map PyData.int)
theorem nV_int (L : List Nat) : nV L = (L.map fun n => ((n : Nat) : Int)).map V.int := by unfold nV; rw [List.map_map]; rfl
theorem dp_nats {K : PySem.W.Frag} {H : Hp} {p : Addr} {L : List Nat} (h : H p = some (.lst (nV L))) : Dp K H (.ref p) (intsD L) := by
  rw [nV_int] at h
  exact .lst (SqL.of h) (dp_ints _)
theorem shaped_ints (L : List Nat) : SeqAt.shaped (intsD L) = true := shaped_of_ints _
section
variable {P : Program} {w : World} {K : PySem.W.Frag} {mg : Str → Option Value} {base : Heap} {cs : List (Addr × Addr)}
def spOrder (K : PySem.W.Frag) : Sp := fun vs H Q _ => ∃ (b l cl : Addr) (cn : List Nat), vs = [.ref b, .ref cl] ∧ BoxAt H b l ∧ H cl = some (.lst (nV cn)) ∧ cl ≠ b ∧ cl ≠ l ∧ cn.length ≤ 4 ∧ (∀ c ∈ cn, c ≤ 1000) ∧
  ∀ (r : Addr) (ods : List Nat) (H' : Hp), BoxAt H' b l → KB b l H H' → H r = none → H' r = some (.lst (nV ods)) → (∀ h, ods.count h = cn.getD h 0) → Q (.ref r) H'
abbrev nmOrder : List Str := ["_law_box", "_law_counts", "_law_left", "_law_found", "_law_hand"]
theorem sc_order : FnScope nmOrder ["_law_box", "_law_counts"] (defScope s_order) := ⟨rfl, rfl, rfl, by decide +kernel, rfl, by decide +kernel, by decide +kernel⟩
theorem ok_order {f g2 : Addr} {fd fd2 : FuncData} (T : Txt mg) (F : Fun K "_law_order" "_law_order" s_order f fd)
    (G2 : FnOk P w K mg base CX0 1 g2 fd2 ["_law_box", "_law_many"] spTake) (k2 : PySem.W.keepIn K (.ref g2) = true) (b2 : Binds K fd2 ["_law_box", "_law_many"] []) (m2 : mg "_law_take" = some (.ref g2)) :
    FnOk P w K mg base CX0 2 f fd ["_law_box", "_law_counts"] (spOrder K) := by
  refine F.ok sc_order (fun vs H Q E h => ?_) (fun cdv A outer s H vs Q E hr h => ?_)
  · obtain ⟨b, l, cl, cn, rfl, _⟩ := h
    rfl
  · obtain ⟨b, l, cl, cn, rfl, hB, hcl, nb, nl, lc, hc, k⟩ := h
    have nd := sc_order.nd
    have r1 : Room 1 _ := hr.mono (by decide)
    have hu := hr.units
    have szl : (9000 : Nat) < sizeLine := by decide
    refine ⟨_, (pss_cons (ps_par (i := 2) (j := 3) rfl nd rfl rfl (by decide) rfl rfl (pa_cons (pe_lst pa_nil) (pa_cons (pe_lst pa_nil) pa_nil)) (by rfl))
      (pss_cons (ps_for PassesOwn.never rfl (pi_range1 (by rfl) T.range (pa_cons (pe_callB call_len_seq (by rfl) T.len PySem.boot_len (pa_cons (pv 1) pa_nil)) pa_nil)) (pg_name (i := 4) nd rfl (.inl rfl))
        (pss_one (ps_set (i := 2) nd rfl (.inl rfl) (pe_op op_cat (pv 2) (pe_op op_rep (pe_lst (pa_cons (pv 4) pa_nil)) (pe_ix ix_list (pv 1) (pv 4) (fun _ _ => rfl)))))))
      (pss_cons (ps_while PassesOwn.never (pt_cmpR (op_neD hu) (pv 2) (pe_lst pa_nil) (nomark _))
        (pss_one (ps_expr (pe_bm PySem.F.plainAttrs_list PySem.F.slot_list_append PySem.F.type_list_append mt_append (pv 3) (pa_cons (pe_bm PySem.F.plainAttrs_list PySem.F.slot_list_pop PySem.F.type_list_pop mt_popAt (pv 2) (pa_cons (pe_call G2 r1 (by rfl) m2 k2 b2 .nil pass0 (pa_cons (pv 0) (pa_cons (pe_callB call_len_seq (by rfl) T.len PySem.boot_len (pa_cons (pv 2) pa_nil)) pa_nil))) pa_nil)) pa_nil)))))
      (pss_one (ps_ret (pv 3)))))), ?_⟩
    refine ⟨by show 0 ≤ sizeLine; decide, fun l0 nl0 => ⟨by show 0 ≤ sizeLine; decide, fun f0 nf0 => ⟨_, _, rfl, ?_⟩⟩⟩
    have s1 := same_new (o := HO.lst []) nl0
    have s2 := same_new (o := HO.lst []) nf0
    have sS := same_trans s1 s2
    have hl0 : upd (upd H l0 (.lst [])) f0 (.lst []) l0 = some (.lst (nV [])) := s2 _ _ upd_same
    have hf0 : upd (upd H l0 (.lst [])) f0 (.lst []) f0 = some (.lst (nV [])) := upd_same
    have nf1 : H f0 = none := same_old s1 nf0
    have ne0 : f0 ≠ l0 := fun e => by rw [e, upd_same] at nf0; cases nf0
    have hB1 := box_same' hB sS
    generalize upd (upd H l0 (.lst [])) f0 (.lst []) = H1 at sS hl0 hf0 hB1 ⊢
    have elen : (((nV cn).length : Nat) : Int) = (cn.length : Nat) := by rw [nV_len]
    refine ⟨_, rfl, cl, _, rfl, .inl (SqL.of (sS _ _ hcl)), (((nV cn).length : Nat) : Int), rfl, by rw [elen]; omega, by rw [elen]; omega, ?_⟩
    refine for_range (n := ((((nV cn).length : Nat) : Int)).toNat) (fun i σ H' => ∃ (c4 : Option V) (lf : Addr) (L : List Nat), σ = [some (.ref b), some (.ref cl), some (.ref lf), some (.ref f0), c4] ∧ Same H1 H' ∧ (lf = l0 ∨ H1 lf = none) ∧ H' lf = some (.lst (nV L)) ∧ (∀ h, L.count h = if h < i then cn.getD h 0 else 0) ∧ L.length ≤ 1000 * i)
      ⟨none, l0, [], rfl, fun _ _ h => h, .inl rfl, hl0, fun h => by simp, Nat.le_refl _⟩ ?_ ?_
    · rintro i σ H2 hi ⟨c4, lf, L, rfl, s2, hlf0, hlf, hL, lL⟩
      rw [elen] at hi
      have hi : i < cn.length := hi
      have e0 : (0 : Int) + (i : Nat) = (i : Nat) := Int.zero_add _
      rw [e0]
      obtain ⟨c, hcn⟩ := getP (xs := cn) (i := i) hi
      have hc1 := hc c (List.mem_of_getElem? hcn)
      refine ⟨_, rfl, _, rfl, by show 1 ≤ sizeLine; decide, fun p np => ?_⟩
      have s3 := same_new (o := HO.lst [V.int (i : Nat)]) np
      have hp := upd_same (H := H2) (a := p) (o := HO.lst [V.int (i : Nat)])
      generalize upd H2 p (.lst [V.int (i : Nat)]) = H3 at s3 hp ⊢
      refine ⟨_, rfl, _, rfl, cl, _, _, .int (c : Nat), rfl, rfl, SqL.of (s3 _ _ (s2 _ _ (sS _ _ hcl))), atI_nat (nV_get hcn), p, _, _, rfl, rfl, hp, by omega, by omega, by show 1 * c ≤ sizeLine; omega, fun q nq => ?_⟩
      have er : (List.replicate ((c : Nat) : Int).toNat [V.int (i : Nat)]).flatten = nV (List.replicate c i) := by
        unfold nV
        rw [List.map_replicate, Int.toNat_natCast, rep_flat]
      rw [er]
      have s4 := same_new (o := HO.lst (nV (List.replicate c i))) nq
      have hq := upd_same (H := H3) (a := q) (o := HO.lst (nV (List.replicate c i)))
      generalize upd H3 q (.lst (nV (List.replicate c i))) = H4 at s4 hq ⊢
      refine ⟨lf, q, _, _, rfl, rfl, s4 _ _ (s3 _ _ hlf), hq, by rw [nV_len, nV_len, List.length_replicate]; omega, fun r nr => ?_⟩
      rw [nV_app]
      have s5 := same_new (o := HO.lst (nV (L ++ List.replicate c i))) nr
      have s25 := same_trans (same_trans (same_trans s2 s3) s4) s5
      have hL := hL
      refine ⟨_, r, L ++ List.replicate c i, rfl, s25, .inr (same_old (same_trans (same_trans s2 s3) s4) nr), upd_same, fun h => ?_, by rw [List.length_append, List.length_replicate]; omega⟩
      rw [List.count_append, hL, List.count_replicate]
      by_cases c1 : h < i
      · have n1 : ¬ ((i == h) = true) := by rw [beq_iff_eq]; omega
        rw [if_pos c1, if_pos (Nat.lt_succ_of_lt c1), if_neg n1, Nat.add_zero]
      · rw [if_neg c1]
        by_cases c2 : h = i
        · subst c2
          rw [if_pos (by simp), if_pos (Nat.lt_succ_self _), List.getD_eq_getElem?_getD, hcn]
          simp
        · have n1 : ¬ ((i == h) = true) := by rw [beq_iff_eq]; omega
          rw [if_neg n1, if_neg (by omega)]
    rintro σ H2 ⟨c4, lf, L, rfl, s2, hlf0, hlf, hL, lL⟩
    rw [elen] at hL lL
    have hL : ∀ h, L.count h = cn.getD h 0 := fun h => by
      rw [hL]
      show (if h < cn.length then _ else _) = _
      by_cases c : h < cn.length
      · rw [if_pos c]
      · rw [if_neg c, List.getD_eq_getElem?_getD, List.getElem?_eq_none (by omega)]
        rfl
    have lL : L.length ≤ 4000 := by
      have : L.length ≤ 1000 * cn.length := lL
      omega
    have nlf : H lf = none := hlf0.elim (fun e => e ▸ nl0) fun h => same_old sS h
    have nef : lf ≠ f0 := fun e => by
      rcases hlf0 with h | h
      · exact ne0 (e.symm.trans h)
      · rw [e, hf0] at h; cases h
    have hB2 := box_same' hB1 s2
    have hf2 := s2 _ _ hf0
    have kb2 : KB b l H H2 := fun c o h _ _ => s2 _ _ (sS _ _ h)
    clear s2 hlf0 hB1 hf0 hl0 sS
    refine ⟨fun m σ H' => ∃ (L F : List Nat), σ = [some (.ref b), some (.ref cl), some (.ref lf), some (.ref f0), c4] ∧ m = L.length ∧ BoxAt H' b l ∧ KB b l H H' ∧ H' lf = some (.lst (nV L)) ∧ H' f0 = some (.lst (nV F)) ∧ (∀ h, F.count h + L.count h = cn.getD h 0) ∧ L.length + F.length ≤ 4000,
      ⟨_, L, [], rfl, rfl, hB2, kb2, hlf, hf2, fun h => by rw [hL]; simp, by simpa using lL⟩, ?_⟩
    clear hL lL hB2 kb2 hlf hf2
    rintro m σ H3 ⟨L, F, rfl, rfl, hB3, kb3, hlf, hf3, hL, lL⟩
    obtain ⟨nb1, nl1⟩ : lf ≠ b ∧ lf ≠ l := box_ne' hB nlf
    obtain ⟨nb2, nl2⟩ : f0 ≠ b ∧ f0 ≠ l := box_ne' hB nf1
    refine ⟨_, rfl, by show 0 ≤ sizeLine; decide, fun e0 ne1 => ?_⟩
    have s4 := same_new (o := HO.lst []) ne1
    have he := upd_same (H := H3) (a := e0) (o := HO.lst [])
    have kb4 : KB b l H (upd H3 e0 (.lst [])) := fun c o h n m => s4 _ _ (kb3 c o h n m)
    have hB4 := box_same' hB3 s4
    have hlf4 := s4 _ _ hlf
    have hf4 := s4 _ _ hf3
    generalize upd H3 e0 (.lst []) = H4 at s4 he kb4 hB4 hlf4 hf4 ⊢
    clear s4 hB3 kb3 hlf hf3 ne1
    refine ⟨intsD L, .list [], dp_nats hlf4, .lst (SqL.of he) .nil, shaped_ints L, rfl, ?_⟩
    cases L with
    | nil =>
      refine ⟨false, rfl, iteF ⟨_, rfl, ?_⟩⟩
      exact k f0 F H4 hB4 kb4 nf1 hf4 fun h => by have := hL h; simpa using this
    | cons p0 L0 =>
    refine ⟨true, rfl, iteT ⟨fun σ' H' => ∃ m', m' < (p0 :: L0).length ∧ _, fun σ' H' q => q, ?_⟩⟩
    have lpos : 0 < (p0 :: L0).length := Nat.succ_pos _
    generalize p0 :: L0 = L at hL lL hlf4 lpos ⊢
    clear he
    refine ⟨_, rfl, .inl ⟨rfl, _, SqL.of hf4⟩, _, rfl, .inl ⟨rfl, _, SqL.of hlf4⟩, _, rfl, _, rfl, lf, _, rfl, .inl (SqL.of hlf4), b, l, _, rfl, hB4, by rw [nV_len]; omega, by rw [nV_len]; omega, fun r H5 r0 r1 hB5 x5 => ?_⟩
    rw [nV_len] at r1
    have hlf5 := x5 _ _ hlf4 nb1 nl1
    have hf5 := x5 _ _ hf4 nb2 nl2
    obtain ⟨r, rfl⟩ := Int.eq_ofNat_of_zero_le r0
    have hr : r < L.length := by omega
    refine ⟨lf, _, _, r, .int (L[r] : Nat), rfl, rfl, hlf5, by omega, by omega, seq_at (by omega) (by rw [nV_len]; omega), nV_get (List.getElem?_eq_getElem hr), ?_⟩
    rw [nV_erase]
    refine ⟨f0, _, _, rfl, rfl, by rw [upd_ne nef.symm]; exact hf5, by rw [nV_len]; omega, ?_⟩
    have ea : nV F ++ [V.int (L[r] : Nat)] = nV (F ++ [L[r]]) := by unfold nV; rw [List.map_append]; rfl
    rw [ea]
    refine ⟨(L.eraseIdx r).length, by rw [List.length_eraseIdx_of_lt hr]; omega, L.eraseIdx r, F ++ [L[r]], rfl, rfl, box_upd' (box_upd' hB5 nb1 nl1) nb2 nl2, fun c o h n m => ?_, by rw [upd_ne nef]; exact upd_same, upd_same, fun h => ?_, by rw [List.length_eraseIdx_of_lt hr, List.length_append]; show L.length - 1 + (F.length + 1) ≤ 4000; omega⟩
    · rw [upd_ne (ne_of_none h nf1), upd_ne (ne_of_none h nlf)]
      exact x5 _ _ (kb4 c o h n m) n m
    · have e1 := count_erase L r hr h
      have e2 := hL h
      rw [List.count_append]
      by_cases c : L[r] = h
      · rw [if_pos c] at e1
        have : ([L[r]] : List Nat).count h = 1 := by rw [c]; simp
        omega
      · rw [if_neg c] at e1
        have : ([L[r]] : List Nat).count h = 0 := List.count_eq_zero.mpr fun z => c (List.mem_singleton.mp z).symm
        omega
end
end TG

namespace TG
open PySem PySem.Spec PyProof.Rows L2 NdefX GenW Gx Lv Dl
abbrev ApartT (cs : List (Addr × Addr)) (p : Addr) : Prop := ∀ q ∈ cs, q.2 ≠ p
/-! ### what stays in the eyes of who holds pages, tuples and own lists -/
/-- tuples stay, and lists of some places -/
structure Kp (Z : Addr → Prop) (H H' : Hp) : Prop where
  ls : ∀ c us, Z c → H c = some (.lst us) → H' c = some (.lst us)
  tp : ∀ c us, H c = some (.tup us) → H' c = some (.tup us)
theorem Kp.tr {Z : Addr → Prop} {H H1 H' : Hp} (x : Kp Z H H1) (y : Kp Z H1 H') : Kp Z H H' := ⟨fun c us z h => y.ls c us z (x.ls c us z h), fun c us h => y.tp c us (x.tp c us h)⟩
theorem Kp.ext {Z : Addr → Prop} {H H' : Hp} (x : LamX.ExtN H H') : Kp Z H H' := ⟨fun c us _ h => x _ _ h fun ps z => (nomatch z), fun c us h => x _ _ h fun ps z => (nomatch z)⟩
theorem Kp.km {Z A : Addr → Prop} {H H' : Hp} (x : KM A H H') (m : Mob H A) (n : ∀ c, Z c → ¬ A c) : Kp Z H H' := ⟨fun c us z h => x _ _ h (fun ps z => (nomatch z)) (n c z), fun c us h => tup_km x m h⟩
/-- data that stands while these places stand -/
def DpZ (K : PySem.W.Frag) (Z : Addr → Prop) (H : Hp) (v : V) (d : PyData) : Prop := ∀ H', Kp Z H H' → Dp K H' v d
theorem DpZ.kp {K : PySem.W.Frag} {Z : Addr → Prop} {H H' : Hp} {v : V} {d : PyData} (h : DpZ K Z H v d) (x : Kp Z H H') : DpZ K Z H' v d := fun H2 y => h H2 (x.tr y)
theorem Kp.refl {Z : Addr → Prop} {H : Hp} : Kp Z H H := ⟨fun _ _ _ h => h, fun _ _ h => h⟩
theorem DpZ.dp {K : PySem.W.Frag} {Z : Addr → Prop} {H : Hp} {v : V} {d : PyData} (h : DpZ K Z H v d) : Dp K H v d := h H Kp.refl
/-- what stands in place of lambdas made -/
structure Lm (p : Addr) (H H1 : Hp) : Prop where
  keep : ∀ b o, H b = some o → b ≠ p → H1 b = some o
  old : ∀ b, H1 b = none → H b = none
theorem tab_ne {p : Addr} {q : Str} {H : Hp} (t : LamX.TabS H p q) {c : Addr} {o : HO} (h : H c = some o) (n : ∀ ps, o ≠ .tbl ps) : c ≠ p := fun e => by
  obtain ⟨ps, h1, _⟩ := t
  rw [e, h1] at h
  cases h
  exact n _ rfl
theorem Lm.ext {p : Addr} {q : Str} {H H1 : Hp} (l : Lm p H H1) (t : LamX.TabS H p q) : LamX.ExtN H H1 := fun c o h n => l.keep c o h (tab_ne t h n)
theorem Lm.tabs {cs : List (Addr × Addr)} {p : Addr} {H H1 : Hp} (l : Lm p H H1) (ne : ∀ r ∈ cs, r.2 ≠ p) (T : Tabs cs H) : Tabs cs H1 := fun r hr => by
  obtain ⟨ps, h1, h2⟩ := T r hr
  exact ⟨ps, l.keep _ _ h1 (ne r hr), h2⟩
theorem tabS_kn {cs : List (Addr × Addr)} {p : Addr} {q : Str} {H H' : Hp} {A : Addr → Prop} (x : KN cs A H H') (m : Mob H A) (ne : ∀ r ∈ cs, r.2 ≠ p) (t : LamX.TabS H p q) : LamX.TabS H' p q := by
  have na : ∀ {c : Addr} {o : HO}, H c = some o → (∀ us, o ≠ .lst us) → (∀ C dx fs, o ≠ .ins C dx fs) → ¬ A c := fun h n1 n2 z => by
    rcases m _ z with ⟨us, e⟩ | ⟨C, dx, fs, e⟩ <;> rw [e] at h <;> cases h
    · exact n1 _ rfl
    · exact n2 _ _ _ rfl
  obtain ⟨ps, h1, h2, h3⟩ := t
  refine ⟨ps, x _ _ h1 (.inr ne) (na h1 (fun us z => by cases z) fun C dx fs z => by cases z), h2, fun pos cv hc => ?_⟩
  obtain ⟨c, e1, e2⟩ := h3 pos cv hc
  exact ⟨c, e1, x _ _ e2 (.inl fun ps => LamX.codeO_ne ps) (na e2 (fun us z => by unfold LamX.CodeO at z; cases z) fun C dx fs z => by unfold LamX.CodeO at z; cases z)⟩
theorem tabS_lm {p p2 : Addr} {q : Str} {H H1 : Hp} (l : Lm p H H1) (n : p2 ≠ p) (t1 : LamX.TabS H p q) {q2 : Str} (t : LamX.TabS H p2 q2) : LamX.TabS H1 p2 q2 := by
  obtain ⟨ps, h1, h2, h3⟩ := t
  refine ⟨ps, l.keep _ _ h1 n, h2, fun pos cv hc => ?_⟩
  obtain ⟨c, e1, e2⟩ := h3 pos cv hc
  exact ⟨c, e1, l.keep _ _ e2 (tab_ne t1 e2 fun ps => LamX.codeO_ne ps)⟩
theorem del_add {H : Hp} {cl : List (Addr × Obj)} (un : ∀ c o, cl.lookup c = some o → H c = none) : delC (addC H cl) cl = H := by
  funext b
  cases r : cl.lookup b with
  | some u => rw [delC_in r, un b u r]
  | none => rw [delC_out r, addC_out r]
theorem HfL.add {f : Addr} {F : NF} {e : Expr} {H : Hp} {cl : List (Addr × Obj)} (un : ∀ c o, cl.lookup c = some o → H c = none) (h : HfL f F e H) : HfL f F e (addC H cl) := ⟨add_at un h.1, add_at un h.2⟩
theorem Lm.of {p : Addr} {H H1 : Hp} (x : Same H H1) : Lm p H H1 := ⟨fun c o h _ => x c o h, fun c h => same_old x h⟩
theorem Lm.kn {cs : List (Addr × Addr)} {p : Addr} {q : Str} {H H1 H' : Hp} {A : Addr → Prop} (l : Lm p H H1) (t : LamX.TabS H p q) (k : KN cs A H1 H') : KN ((p, p) :: cs) A H H' := fun c o h n m => by
  refine k c o (l.keep c o h ?_) (n.imp id fun z r hr => z r (List.mem_cons_of_mem _ hr)) m
  rcases n with n | n
  · exact tab_ne t h n
  · exact fun e => n (p, p) List.mem_cons_self e.symm
/-! ### a deed done -/
abbrev LamT := Arguments × Expr × Scope
def sc00 : Scope := { kind := .function, names := [], isGenerator := false, isCoroutine := false }
def lam00 : LamT := ({ posonlyargs := [], args := [], vararg := none, kwonlyargs := [], kw_defaults := [], kwarg := none, defaults := [] }, .Name "x" ⟨0, 0, 0, 0⟩, sc00)
def lamOf : Expr → LamT
  | .Lambda p b sc _ => (p, b, sc)
  | _ => lam00
def stAt (l : List Stmt) (i : Nat) : Stmt := l.getD i (.Pass ⟨0, 0, 0, 0⟩)
def lcLam : Stmt → LamT
  | .For _ _ [_, _, .For _ _ (.Assign _ (.ListComp (.Call _ [e] _ _) _ _ _) _ :: _) _ _] _ _ => lamOf e
  | _ => lam00
abbrev lamD : LamT := lcLam (stAt (defBody s_law) 3)
abbrev cap3 : List Str := ["_law_table", "_law_hand", "_law_what"]
theorem sc_ld : NScope cap3 [] cap3 lamD.2.2 := nscope_by (by decide +kernel)
section
variable {P : Program} {w : World} {K : PySem.W.Frag} {mg : Str → Option Value} {base : Heap} {cs : List (Addr × Addr)} {B C CB G : Addr}
def pre4 (S : TSt) (h : Nat) : Wh → Prop
  | .press s => MarkOk s ∧ SetPre S (S.signs ++ [s]) (ordP S h) (deedP S h s)
  | .rub => ∀ m, nearR S h (-1) = some m → SetPre S S.signs S.order (S.deeds ++ [((h, ("" : Str), m, true) : Deed)])
  | _ => True
theorem GP.pre {S : TSt} {O : List Nat} {n0 h : Nat} {wh : Wh} (t : GP S O n0) (hh : h < S.spots.length) (ok : wh.ok) (l1 : S.signs.length ≤ 3900) (l2 : S.deeds.length ≤ 900) : pre4 S h wh := by
  cases wh with
  | press s => exact ⟨ok, t.set hh ok l1 l2⟩
  | rub => exact fun m hm => t.setR hh hm l2
  | left => trivial
  | right => trivial
def spDone (cs : List (Addr × Addr)) (B C CB : Addr) : Sp := fun vs H Q E => ∃ (tb wt : Addr) (h : Nat) (a : TA) (S : TSt) (wh : Wh), vs = [.ref tb, .int (h : Nat), .ref wt] ∧ Tabs cs H ∧ TabD B H tb a S ∧ TOk S ∧ h < S.spots.length ∧ H wt = some (.tup wh.vals) ∧ pre4 S h wh ∧
  (∀ S', step4 S h wh = some S' → Went cs B H tb a S' fun H' => ∀ v, Q v H') ∧ (step4 S h wh = none → ∀ H', Ex cs H H' → E (.ref C) none H' ∧ E (.ref CB) none H')
theorem sc_done : FnScope ["_law_table", "_law_hand", "_law_what"] ["_law_table", "_law_hand", "_law_what"] (defScope s_done) := ⟨rfl, rfl, rfl, by decide +kernel, rfl, by decide +kernel, by decide +kernel⟩
theorem ok_done {f gw gu gl gr : Addr} {fd fdw fdu fdl fdr : FuncData} (X : TabC K B) (F : Fun K "_law_done" "_law_done" s_done f fd)
    (Mw : Meth K B "press" gw) (Gw : FnOk P w K mg base (L2.CX P w) 12 gw fdw ["self", "hand", "sign"] (spPressT cs B C)) (bw : Binds K fdw ["self", "hand", "sign"] [])
    (Mu : Meth K B "rub" gu) (Gu : FnOk P w K mg base (L2.CX P w) 12 gu fdu ["self", "hand"] (spTRub cs B CB C)) (bu : Binds K fdu ["self", "hand"] [])
    (Ml : Meth K B "left" gl) (Gl : FnOk P w K mg base CX0 5 gl fdl ["self", "hand"] (spTLeft cs B)) (bl : Binds K fdl ["self", "hand"] [])
    (Mr : Meth K B "right" gr) (Gr : FnOk P w K mg base CX0 5 gr fdr ["self", "hand"] (spTRight cs B)) (br : Binds K fdr ["self", "hand"] []) :
    FnOk P w K mg base (L2.CX P w) 13 f fd ["_law_table", "_law_hand", "_law_what"] (spDone cs B C CB) := by
  refine F.okX sc_done (fun vs H Q E h => ?_) (fun cdv A outer s H vs Q E hr h => ?_)
  · obtain ⟨tb, wt, h, a, S, wh, rfl, _⟩ := h
    rfl
  · obtain ⟨tb, wt, h, a, S, wh, rfl, hT, hD, hO, hh, hw, hp, k, kx⟩ := h
    have r5 : Room 5 _ := hr.mono (by decide)
    refine ⟨_, (pss_cons (ps_if (pt_cmpR op_eq (pe_ix ix_tup (pv 2) pe_int (fun _ _ => rfl)) pe_str (nomark _)) (pss_one (ps_ret (pe_methS (pv 0) X.cls Mw Gw hr bw (fun σ => passAt (takes_of rfl rfl rfl rfl) σ) (pa_cons (pv 1) (pa_cons (pe_ix ix_tup (pv 2) pe_int (fun _ _ => rfl)) pa_nil))))) pss_nil)
      (pss_cons (ps_if (pt_cmpR op_eq (pe_ix ix_tup (pv 2) pe_int (fun _ _ => rfl)) pe_str (nomark _)) (pss_one (ps_ret (pe_methS (pv 0) X.cls Mu Gu hr bu (fun σ => passAt (takes_of rfl rfl rfl rfl) σ) (pa_cons (pv 1) pa_nil)))) pss_nil)
      (pss_one (ps_ret (pe_ifExp (pt_cmpR op_eq (pe_ix ix_tup (pv 2) pe_int (fun _ _ => rfl)) pe_str (nomark _)) (pe_meth (pv 0) X.cls Ml Gl r5 bl .nil pass0 (pa_cons (pv 1) pa_nil)) (pe_meth (pv 0) X.cls Mr Gr r5 br .nil pass0 (pa_cons (pv 1) pa_nil))))))), ?_⟩
    have neS : ∀ {a b : Str}, a ≠ b → decide (V.str a = V.str b) = false := fun ne => decide_eq_false fun z => by injection z with z; exact ne z
    cases wh with
    | press z =>
      refine ⟨_, rfl, wt, _, 0, .str "press", rfl, rfl, SqT.of hw, atI_nat (j := 0) rfl, rfl, true, rfl, iteT ?_⟩
      refine ⟨_, rfl, tb, a.dx, _, rfl, hD.ob, rfl, _, rfl, _, rfl, wt, _, 1, .str z, rfl, rfl, SqT.of hw, atI_nat (j := 1) rfl, tb, h, z, a, S, rfl, hT, hD, hO, hh, hp.1, hp.2, fun g => ?_, fun g => ?_⟩
      · exact fun a' H' e1 e2 e3 e4 e5 e6 => k (pressR S h z) (by unfold step4; exact if_pos g) a' H' e1 e2 e3 e4 e5 e6 _
      · exact fun H' x => (kx (by unfold step4; exact if_neg g) H' x).1
    | rub =>
      refine ⟨_, rfl, wt, _, 0, .str "rub", rfl, rfl, SqT.of hw, atI_nat (j := 0) rfl, rfl, false, congrArg V.bl (neS (show (_ : Str) ≠ _ by decide)), iteF ?_⟩
      refine ⟨_, rfl, wt, _, 0, .str "rub", rfl, rfl, SqT.of hw, atI_nat (j := 0) rfl, rfl, true, rfl, iteT ?_⟩
      refine ⟨_, rfl, tb, a.dx, _, rfl, hD.ob, rfl, _, rfl, tb, h, a, S, rfl, hT, hD, hO, hh, fun m hm => ⟨hp m hm, fun g => ?_, fun g => ?_⟩, fun hm => ?_⟩
      · exact fun a' H' e1 e2 e3 e4 e5 e6 => k (rubR S h m) (by unfold step4; rw [hm]; exact if_pos g) a' H' e1 e2 e3 e4 e5 e6 _
      · exact fun H' x => (kx (by unfold step4; rw [hm]; exact if_neg g) H' x).1
      · exact fun H' x => (kx (by unfold step4; rw [hm]) H' x).2
    | left =>
      refine ⟨_, rfl, wt, _, 0, .str "left", rfl, rfl, SqT.of hw, atI_nat (j := 0) rfl, rfl, false, congrArg V.bl (neS (show (_ : Str) ≠ _ by decide)), iteF ?_⟩
      refine ⟨_, rfl, wt, _, 0, .str "left", rfl, rfl, SqT.of hw, atI_nat (j := 0) rfl, rfl, false, congrArg V.bl (neS (show (_ : Str) ≠ _ by decide)), iteF ?_⟩
      refine ⟨_, rfl, wt, _, 0, .str "left", rfl, rfl, SqT.of hw, atI_nat (j := 0) rfl, rfl, true, rfl, iteT ?_⟩
      refine ⟨_, rfl, tb, a.dx, _, rfl, hD.ob, rfl, _, rfl, tb, h, a, S, rfl, hT, hD, hO, hh, ?_⟩
      exact fun a' H' e1 e2 e3 e4 e5 e6 => k _ rfl a' H' e1 e2 e3 e4 e5 e6 _
    | right =>
      refine ⟨_, rfl, wt, _, 0, .str "right", rfl, rfl, SqT.of hw, atI_nat (j := 0) rfl, rfl, false, congrArg V.bl (neS (show (_ : Str) ≠ _ by decide)), iteF ?_⟩
      refine ⟨_, rfl, wt, _, 0, .str "right", rfl, rfl, SqT.of hw, atI_nat (j := 0) rfl, rfl, false, congrArg V.bl (neS (show (_ : Str) ≠ _ by decide)), iteF ?_⟩
      refine ⟨_, rfl, wt, _, 0, .str "right", rfl, rfl, SqT.of hw, atI_nat (j := 0) rfl, rfl, false, congrArg V.bl (neS (show (_ : Str) ≠ _ by decide)), iteF ?_⟩
      refine ⟨_, rfl, tb, a.dx, _, rfl, hD.ob, rfl, _, rfl, tb, h, a, S, rfl, hT, hD, hO, hh, ?_⟩
      exact fun a' H' e1 e2 e3 e4 e5 e6 => k _ rfl a' H' e1 e2 e3 e4 e5 e6 _
def spLamD (sp : Sp) (F : NF) : Sp := fun vs H Q E => vs = [] ∧ ∃ (tb : Addr) (h : Nat) (wt : Addr) (cl : List (Addr × Obj)), Caught F cap3 [some (.ref tb), some (.int (h : Nat)), some (.ref wt)] cl H ∧
  sp [.ref tb, .int (h : Nat), .ref wt] (delC H cl) (fun v H' => (∀ c o, cl.lookup c = some o → H' c = none) → Q v (addC H' cl)) (fun cls d H' => (∀ c o, cl.lookup c = some o → H' c = none) → E cls d (addC H' cl))
theorem lok_d {q : Str} {c' f g : Addr} {fdg : FuncData} {lc : List (Str × Addr)} {sp : Sp} (G : FnOk P w K mg base (L2.CX P w) 13 g fdg ["_law_table", "_law_hand", "_law_what"] sp) (kg : PySem.W.keepIn K (.ref g) = true) (bd : Binds K fdg ["_law_table", "_law_hand", "_law_what"] []) (mm : mg "_law_done" = some (.ref g)) :
    LamW P w K mg base 14 f (HfL f ⟨"<lambda>", q, lamD.1, [], lamD.2.2, lc, c'⟩ lamD.2.1) (spLamD sp ⟨"<lambda>", q, lamD.1, [], lamD.2.2, lc, c'⟩) := by
  refine lamw_l (lokx_of (N := cap3) (fr := cap3) sc_ld (fun pm ctv => rfl) fun A outer s H Q E hr h => ?_)
  obtain ⟨_, tb, h, wt, cl, hC, hsp⟩ := h
  refine ⟨[some (.ref tb), some (.int (h : Nat)), some (.ref wt)], cl, _, hC, pe_callS G hr (by rfl) mm kg bd (fun σ => passAt (takes_of rfl rfl rfl rfl) σ) (pa_cons (pv 0) (pa_cons (pv 1) (pa_cons (pv 2) pa_nil))), ?_⟩
  exact ⟨_, rfl, _, rfl, _, rfl, hsp⟩
theorem couldD {cells : List (Str × Addr)} {N : List Str} {σ : L2.St} {cl : List (Addr × Obj)} {H : Hp} {f c' tb wt : Addr} {h : Nat} {a : TA} {S : TSt} {wh : Wh} {lc : List (Str × Addr)} {Hf : Hp → Prop} {Q : VK} {E : XK} {qn : Str} {it ih iw : Nat}
    (T : ToldC cells N cap3 σ cl) (un : ∀ c o, cl.lookup c = some o → H c = none) (hF : lc = cloFrom cells lamD.2.2.names []) (hN : N[it]? = some ("_law_table" : Str)) (hN1 : N[ih]? = some ("_law_hand" : Str)) (hN2 : N[iw]? = some ("_law_what" : Str)) (hσ : σ[it]? = some (some (.ref tb))) (hσ1 : σ[ih]? = some (some (.int (h : Nat)))) (hσ2 : σ[iw]? = some (some (.ref wt)))
    (hf : Hf (addC H cl)) (L : LamW P w K mg base 14 f Hf (spLamD (spDone cs B C CB) ⟨"<lambda>", qn, lamD.1, [], lamD.2.2, lc, c'⟩)) (up : PySem.W.exmOne K (.ref C) (.ref G) = some true) (upB : PySem.W.exmOne K (.ref CB) (.ref G) = some true)
    (hT : Tabs cs H) (hD : TabD B H tb a S) (hO : TOk S) (hh : h < S.spots.length) (hw : H wt = some (.tup wh.vals)) (hp : pre4 S h wh)
    (k : ∀ S', step4 S h wh = some S' → Went cs B H tb a S' fun H' => (∀ c o, cl.lookup c = some o → H' c = none) → Q (.bl true) (addC H' cl)) (kx : step4 S h wh = none → ∀ H', Ex cs H H' → (∀ c o, cl.lookup c = some o → H' c = none) → Q .non (addC H' cl)) :
    spCould P w K mg base G 14 [.ref f] (addC H cl) Q E := by
  refine ⟨f, Hf, _, rfl, hf, L, fun Z E2 hZ hE => ?_⟩
  refine ⟨rfl, tb, h, wt, cl, caught_of T hF (fun y hy => sc_ld.free (y, .free) hy rfl) (fun y hy => PySem.mem_of_lookup (sc_ld.frk y hy)) (fun y hy => hy) rfl (fun c o q => addC_in q) (fun i y v q1 q2 => ?_), ?_⟩
  · match i, q1, q2 with
    | 0, q1, q2 =>
      cases q1
      cases q2
      exact ⟨it, hN, hσ⟩
    | 1, q1, q2 =>
      cases q1
      cases q2
      exact ⟨ih, hN1, hσ1⟩
    | 2, q1, q2 =>
      cases q1
      cases q2
      exact ⟨iw, hN2, hσ2⟩
    | i + 3, q1, _ => simp at q1
  rw [del_add un]
  exact ⟨tb, wt, h, a, S, wh, rfl, hT, hD, hO, hh, hw, hp, fun S' e a' H' e1 e2 e3 e4 e5 e6 v hu => hZ _ _ (k S' e a' H' e1 e2 e3 e4 e5 e6 hu), fun e H' x => ⟨fun hu => hE _ _ _ up (kx e H' x hu), fun hu => hE _ _ _ upB (kx e H' x hu)⟩⟩
end
end TG

namespace TG
open PySem PySem.Spec PyProof.Rows L2 NdefX GenW Gx Lv Dl
/-! ### told deeds, kept -/
structure ToldDs (H : Hp) (D : Addr) (ts : List Addr) (ds : List Deed) : Prop where
  lst : H D = some (.lst (ts.map V.ref))
  len : ts.length = ds.length
  at_ : ∀ (i : Nat) (t : Addr) (d : Deed), ts[i]? = some t → ds[i]? = some d → H t = some (.tup (toldV d))
theorem told_of {H0 H : Hp} {D : Addr} {ds : List Deed} (o : TupL H0 D (ds.map toldV) H) : ∃ ts, ToldDs H D ts ds := by
  obtain ⟨ts, h1, h2, h3⟩ := o.ts
  exact ⟨ts, h1, by rw [h2, List.length_map], fun i t d e1 e2 => h3 i t _ e1 (by rw [List.getElem?_map, e2]; rfl)⟩
def deedD (d : Deed) : PyData := .tuple [.int (d.1 : Nat), .str d.2.1, .bool d.2.2.2]
theorem eqv_deed {d e : Deed} (h1 : d.1 = e.1) (h2 : d.2.1 = e.2.1) : PyData.eqv (deedD d) (deedD e) = decide (d.2.2.2 = e.2.2.2) := by
  unfold deedD
  rw [h1, h2]
  cases d.2.2.2 <;> cases e.2.2.2 <;> simp [PyData.eqv, PyData.eqvAll]
def SgD (d : Deed) : Prop := d.2.1 = "" ∨ MarkOk d.2.1
theorem strOk_sg {d : Deed} (h : SgD d) : PyData.strOk d.2.1 = true := by
  rcases h with h | h
  · rw [h]; decide +kernel
  · unfold PyData.strOk
    rw [← Array.all_toList, List.all_eq_true]
    intro c hc
    have := h.sg c hc
    unfold SgOk at this
    exact decide_eq_true (by omega)
theorem can_deed {d : Deed} (h : SgD d) : PyData.canLay0 (deedD d) = true := by
  have := strOk_sg h
  simp [deedD, PyData.canLay0, PyData.canLayAll0, this]
theorem shaped_deed {d : Deed} (h : SgD d) : SeqAt.shaped (deedD d) = true := by
  unfold SeqAt.shaped
  have h2 : PyData.depth (deedD d) ≤ 2 := by simp [deedD, PyData.depth, PyData.depthAll]
  rw [can_deed h, Bool.true_and]
  exact decide_eq_true (by omega)
theorem dp_deed {K : PySem.W.Frag} {H : Hp} {t : Addr} {d : Deed} (h : H t = some (.tup (toldV d))) : Dp K H (.ref t) (deedD d) := .tup (SqT.of h) (.cons (.int _) (.cons (.str _) (.cons (.bl _) .nil)))
section
variable {H H' : Hp} {D : Addr} {ts : List Addr} {ds : List Deed} {i : Nat}
theorem ToldDs.same (o : ToldDs H D ts ds) (x : Same H H') : ToldDs H' D ts ds := ⟨x _ _ o.lst, o.len, fun i t d h1 h2 => x _ _ (o.at_ i t d h1 h2)⟩
theorem ToldDs.gw (o : ToldDs H D ts ds) (x : LamX.ExtN H H') : ToldDs H' D ts ds := ⟨x _ _ o.lst fun ps z => (nomatch z), o.len, fun i t d h1 h2 => x _ _ (o.at_ i t d h1 h2) fun ps z => (nomatch z)⟩
theorem ToldDs.km {A : Addr → Prop} (o : ToldDs H D ts ds) (x : KM A H H') (m : Mob H A) (n : ¬ A D) : ToldDs H' D ts ds := ⟨x _ _ o.lst (fun ps z => (nomatch z)) n, o.len, fun i t d h1 h2 => tup_km x m (o.at_ i t d h1 h2)⟩
theorem ToldDs.nth (o : ToldDs H D ts ds) (hi : i < ds.length) : ∃ t, (ts.map V.ref)[i]? = some (.ref t) ∧ H t = some (.tup (toldV (ds.getD i d0))) := by
  obtain ⟨t, ht⟩ := getP (xs := ts) (i := i) (by rw [o.len]; exact hi)
  refine ⟨t, by rw [List.getElem?_map, ht]; rfl, o.at_ i t _ ht ?_⟩
  rw [List.getD_eq_getElem?_getD, List.getElem?_eq_getElem hi]
  rfl
end
/-! ### the lambda -/
abbrev s_lturned : Stmt := top 62
def ifLam : Stmt → LamT
  | .For _ _ (_ :: .If (.Compare (.Call _ [e] _ _) _ _ _) _ _ _ :: _) _ _ => lamOf e
  | _ => lam00
abbrev lamT : LamT := ifLam (stAt (defBody s_lturned) 0)
abbrev capT : List Str := ["_law_table", "_law_hand", "_law_is_back"]
abbrev qTu : Str := ("_law_turned" : Str) ++ ".<locals>." ++ "<lambda>"
theorem sc_lt : NScope capT [] capT lamT.2.2 := nscope_by (by decide +kernel)
section
variable {P : Program} {w : World} {K : PySem.W.Frag} {mg : Str → Option Value} {base : Heap} {cs : List (Addr × Addr)} {B C CB G : Addr}
def spLamT (B : Addr) (spB spA : Sp) (F : NF) : Sp := fun vs H Q E => vs = [] ∧ ∃ (tb : Addr) (h : Nat) (bk : Bool) (cl : List (Addr × Obj)) (dx : Addr) (fs : List (Str × V)), Caught F capT [some (.ref tb), some (.int (h : Nat)), some (.bl bk)] cl H ∧ delC H cl tb = some (.ins B dx fs) ∧ fs.lookup ("back" : Str) = none ∧ fs.lookup ("again" : Str) = none ∧
  (if bk = true then spB else spA) [.ref tb, .int (h : Nat)] (delC H cl) (fun v H' => (∀ c o, cl.lookup c = some o → H' c = none) → Q v (addC H' cl)) (fun cls d H' => (∀ c o, cl.lookup c = some o → H' c = none) → E cls d (addC H' cl))
theorem lok_t {q : Str} {c' f gb ga : Addr} {fdb fda : FuncData} {lc : List (Str × Addr)} {spB spA : Sp} (X : TabC K B) (Mb : Meth K B "back" gb) (Gb : FnOk P w K mg base (L2.CX P w) 13 gb fdb ["self", "hand"] spB) (bb : Binds K fdb ["self", "hand"] []) (Ma : Meth K B "again" ga) (Ga : FnOk P w K mg base (L2.CX P w) 13 ga fda ["self", "hand"] spA) (ba : Binds K fda ["self", "hand"] []) :
    LamW P w K mg base 14 f (HfL f ⟨"<lambda>", q, lamT.1, [], lamT.2.2, lc, c'⟩ lamT.2.1) (spLamT B spB spA ⟨"<lambda>", q, lamT.1, [], lamT.2.2, lc, c'⟩) := by
  refine lamw_l (lokx_of (N := capT) (fr := capT) sc_lt (fun pm ctv => rfl) fun A outer s H Q E hr h => ?_)
  obtain ⟨_, tb, h, bk, cl, dx, fs, hC, hob, l1, l2, hsp⟩ := h
  refine ⟨[some (.ref tb), some (.int (h : Nat)), some (.bl bk)], cl, _, hC, pe_ifExp (pt_val (pv 2)) (pe_methS (pv 0) X.cls Mb Gb hr bb (fun σ => passAt (takes_of rfl rfl rfl rfl) σ) (pa_cons (pv 1) pa_nil)) (pe_methS (pv 0) X.cls Ma Ga hr ba (fun σ => passAt (takes_of rfl rfl rfl rfl) σ) (pa_cons (pv 1) pa_nil)), ?_⟩
  refine ⟨_, rfl, bk, rfl, ?_⟩
  cases bk with
  | true => exact iteT ⟨_, rfl, tb, dx, fs, rfl, hob, l1, _, rfl, hsp⟩
  | false => exact iteF ⟨_, rfl, tb, dx, fs, rfl, hob, l2, _, rfl, hsp⟩
theorem couldT {cells : List (Str × Addr)} {N : List Str} {σ : L2.St} {cl : List (Addr × Obj)} {H : Hp} {f c' tb : Addr} {h : Nat} {bk : Bool} {a : TA} {S : TSt} {lc : List (Str × Addr)} {Hf : Hp → Prop} {Q : VK} {E : XK} {qn : Str} {it ih ib : Nat} {spB spA : Sp}
    (T : ToldC cells N capT σ cl) (un : ∀ c o, cl.lookup c = some o → H c = none) (hF : lc = cloFrom cells lamT.2.2.names []) (hN : N[it]? = some ("_law_table" : Str)) (hN1 : N[ih]? = some ("_law_hand" : Str)) (hN2 : N[ib]? = some ("_law_is_back" : Str)) (hσ : σ[it]? = some (some (.ref tb))) (hσ1 : σ[ih]? = some (some (.int (h : Nat)))) (hσ2 : σ[ib]? = some (some (.bl bk)))
    (hf : Hf (addC H cl)) (L : LamW P w K mg base 14 f Hf (spLamT B spB spA ⟨"<lambda>", qn, lamT.1, [], lamT.2.2, lc, c'⟩)) (hD : TabD B H tb a S)
    (k : ∀ (Z : VK) (E' : XK), (∀ v H', ((∀ c o, cl.lookup c = some o → H' c = none) → Q (.bl true) (addC H' cl)) → Z v H') → (∀ (cls : Value) (d : Option Addr) H', PySem.W.exmOne K cls (.ref G) = some true → ((∀ c o, cl.lookup c = some o → H' c = none) → Q .non (addC H' cl)) → E' cls d H') →
      (if bk = true then spB else spA) [.ref tb, .int (h : Nat)] H Z E') :
    spCould P w K mg base G 14 [.ref f] (addC H cl) Q E := by
  refine ⟨f, Hf, _, rfl, hf, L, fun Z E2 hZ hE => ?_⟩
  refine ⟨rfl, tb, h, bk, cl, a.dx, a.fs, caught_of T hF (fun y hy => sc_lt.free (y, .free) hy rfl) (fun y hy => PySem.mem_of_lookup (sc_lt.frk y hy)) (fun y hy => hy) rfl (fun c o q => addC_in q) (fun i y v q1 q2 => ?_), by rw [del_add un]; exact hD.ob, rfl, rfl, ?_⟩
  · match i, q1, q2 with
    | 0, q1, q2 =>
      cases q1
      cases q2
      exact ⟨it, hN, hσ⟩
    | 1, q1, q2 =>
      cases q1
      cases q2
      exact ⟨ih, hN1, hσ1⟩
    | 2, q1, q2 =>
      cases q1
      cases q2
      exact ⟨ib, hN2, hσ2⟩
    | i + 3, q1, _ => simp at q1
  rw [del_add un]
  exact k _ _ (fun v H' q hu => hZ _ _ (q hu)) fun cls d H' e q hu => hE _ _ _ e (q hu)
end
theorem tone_go {v : V} {σ : L2.St} {H : Hp} {Q : List V → Hp → Prop} (h : Q [v] H) : tCons (tC v) tNil σ H Q := h
theorem tnil_go {σ : L2.St} {H : Hp} {Q : List V → Hp → Prop} (h : Q [] H) : tNil σ H Q := h
theorem tC_go {v : V} {σ : L2.St} {H : Hp} {Q : VK} (h : Q v H) : tC v σ H Q := h
/-! ### a table that moves on -/
structure Mv (cs : List (Addr × Addr)) (p tb : Addr) (a0 : TA) (H0 : Hp) (a : TA) (H : Hp) : Prop where
  kn : KN ((p, p) :: cs) (ownT tb a0) H0 H
  ow : ∀ c, ownT tb a c → ownT tb a0 c ∨ H0 c = none
  old : ∀ c, H c = none → H0 c = none
  est : a.st = a0.st
section
variable {cs : List (Addr × Addr)} {p tb : Addr} {a0 a a' : TA} {H0 H H' : Hp}
theorem Mv.start : Mv cs p tb a0 H0 a0 H0 := ⟨fun _ _ h _ _ => h, fun c h => .inl h, fun c h => h, rfl⟩
theorem Mv.step (m : Mv cs p tb a0 H0 a H) (kn : KN ((p, p) :: cs) (ownT tb a) H H') (ow : ∀ c, ownT tb a' c → ownT tb a c ∨ H c = none) (old : ∀ c, H' c = none → H c = none) (es : a'.st = a.st) : Mv cs p tb a0 H0 a' H' :=
  ⟨(fun c o h n nn => kn c o (m.kn c o h n nn) n fun z => by
    rcases m.ow c z with q | q
    · exact nn q
    · rw [h] at q
      cases q), fun c hc => (ow c hc).elim (m.ow c) fun z => .inr (m.old c z), fun c h => m.old c (old c h), es.trans m.est⟩
theorem Mv.same (m : Mv cs p tb a0 H0 a H) (x : Same H H') : Mv cs p tb a0 H0 a H' := m.step (KN.same x) (fun c h => .inl h) (fun c h => same_old x h) rfl
theorem Mv.lam {q : Str} (m : Mv cs p tb a0 H0 a H) (l : Lm p H H') (t : LamX.TabS H p q) : Mv cs p tb a0 H0 a H' := m.step (l.kn t (fun _ _ h _ _ => h)) (fun c h => .inl h) l.old rfl
theorem Mv.went (m : Mv cs p tb a0 H0 a H) (kn : KN cs (ownT tb a) H H') (ow : ∀ c, ownT tb a' c → ownT tb a c ∨ H c = none) (old : ∀ c, H' c = none → H c = none) (es : a'.st = a.st) : Mv cs p tb a0 H0 a' H' :=
  m.step (fun c o h n nn => kn c o h (n.imp id fun z r hr => z r (List.mem_cons_of_mem _ hr)) nn) ow old es
end
/-! ### what is found otherwise -/
theorem filt_one {n m : Nat} (h : n < m) : (List.range m).filter (fun i => decide (i = n)) = [n] := by
  induction m with
  | zero => omega
  | succ m ih =>
    rw [List.range_succ, List.filter_append]
    by_cases c : n < m
    · rw [ih c, List.filter_cons, if_neg (by simp; omega)]
      rfl
    · have e : n = m := by omega
      have e2 : (List.range m).filter (fun i => decide (i = n)) = [] := List.filter_eq_nil_iff.mpr fun x hx => by
        have := List.mem_range.mp hx
        simp
        omega
      rw [e2, e]
      simp
theorem nV_one {n : Nat} (l : List Nat) : nV l ++ [V.int ((0 : Int) + (n : Nat))] = nV (l ++ [n]) := by
  unfold nV
  rw [List.map_append, Int.zero_add]
  rfl
/-- numbers of a range that are so, in a new list -/
theorem filt_step {p : Nat → Bool} (i : Nat) : (List.range (i + 1)).filter p = (List.range i).filter p ++ if p i = true then [i] else [] := by
  rw [List.range_succ, List.filter_append, List.filter_cons, List.filter_nil]
theorem count_succ {ods : List Nat} {i h : Nat} (e : ods[i]? = some h) (g : Nat) : (ods.take (i + 1)).count g = (ods.take i).count g + if h = g then 1 else 0 := by
  rw [List.take_add_one, e, Option.toList_some, List.count_append]
  by_cases c : h = g
  · rw [if_pos c, c]; simp
  · rw [if_neg c]
    have : ([h] : List Nat).count g = 0 := List.count_eq_zero.mpr fun z => c (List.mem_singleton.mp z).symm
    rw [this]
end TG

namespace TG
open PySem PySem.Spec PyProof.Rows L2 NdefX GenW Gx Lv Dl
/-! ### _law_turned -/
section
variable {P : Program} {w : World} {K : PySem.W.Frag} {mg : Str → Option Value} {base : Heap} {cs : List (Addr × Addr)} {B C CB G p : Addr}
def DoneT (bk : Bool) (ods : List Nat) (O : List Nat) (n0 : Nat) (D0 : List Deed) (S0 S' : TSt) : Prop := GP S' O n0 ∧ Ph D0 S' ∧ S'.signs = S0.signs ∧ S'.spots.length = S0.spots.length ∧
  ∀ h, h < S0.spots.length → (S'.undone.getD h []).length = if bk = true then (S0.undone.getD h []).length + ods.count h else (S0.undone.getD h []).length - ods.count h
def spLTurn (cs : List (Addr × Addr)) (B p : Addr) : Sp := fun vs H Q _ => ∃ (tb od : Addr) (bk : Bool) (a : TA) (S : TSt) (O : List Nat) (n0 : Nat) (D0 : List Deed) (ods : List Nat), vs = [.ref tb, .ref od, .bl bk] ∧ Tabs cs H ∧ LamX.TabS H p qTu ∧ TabD B H tb a S ∧ GP S O n0 ∧ Ph D0 S ∧ (∀ d ∈ D0, SgD d) ∧
  H od = some (.lst (nV ods)) ∧ ¬ ownT tb a od ∧ (∀ h ∈ ods, h < S.spots.length) ∧ (∀ h, h < S.spots.length → if bk = true then ods.count h + (S.undone.getD h []).length ≤ (ownD D0 h).length else ods.count h ≤ (S.undone.getD h []).length) ∧
  ∀ (v : V) (a' : TA) (S' : TSt) (H' : Hp), Mv cs p tb a H a' H' → Tabs cs H' → LamX.TabS H' p qTu → TabD B H' tb a' S' → (v = .non ∨ (v = .bl true ∧ DoneT bk ods O n0 D0 S S')) → Q v H'
abbrev nmLTurn : List Str := ["_law_table", "_law_order_here", "_law_is_back", "_law_hand", "_law_before", "_law_after", "_law_other", "_law_mine", "_law_lost", "_law_k"]
theorem sc_lturn : FnScope nmLTurn ["_law_table", "_law_order_here", "_law_is_back"] (defScope s_lturned) := ⟨rfl, rfl, rfl, by decide +kernel, rfl, by decide +kernel, by decide +kernel⟩
theorem key_t : ∀ y ∈ lamT.2.2.names, y.2 = .free → (defScope s_lturned).names.lookup y.1 = some .cell := by decide +kernel
theorem key_cT : ∀ y ∈ capT, (defScope s_lturned).names.lookup y = some .cell := by decide +kernel
theorem kn_ex' {cs : List (Addr × Addr)} {p : Addr} {A : Addr → Prop} {H H' : Hp} (x : Ex cs H H') : KN ((p, p) :: cs) A H H' := fun c u h n _ => x.any h (n.imp id fun z r hr => z r (List.mem_cons_of_mem _ hr))
theorem kn_exA {cs : List (Addr × Addr)} {A : Addr → Prop} {H H' : Hp} (x : Ex cs H H') : KN cs A H H' := fun c u h n _ => x.any h n
theorem getD_mem {l : List (List Nat)} {h : Nat} (hh : h < l.length) : l.getD h [] ∈ l := by
  rw [List.getD_eq_getElem?_getD, List.getElem?_eq_getElem hh]
  exact List.getElem_mem hh
theorem ods_le {ods : List Nat} {i g : Nat} : (ods.take i).count g ≤ ods.count g := (List.take_sublist i ods).count_le g
theorem ok_lturn {f c gc gt gb ga : Addr} {fd fdc fdt fdb fda : FuncData} (T : Txt mg) (X : TabC K B) (ne : ApartT cs p) (F : Fun K "_law_turned" "_law_turned" s_lturned f fd) (hcode : fd.code = .ref c) (TB : LamX.TabB base mg c p) (up : PySem.W.exmOne K (.ref C) (.ref G) = some true)
    (Gc : FnOk P w K mg base CX0 15 gc fdc ["_law_work"] (spCould P w K mg base G 14)) (kc : PySem.W.keepIn K (.ref gc) = true) (bc : Binds K fdc ["_law_work"] []) (mc : mg "_law_could" = some (.ref gc))
    (Mt : Meth K B "told" gt) (Gt : FnOk P w K mg base CX0 1 gt fdt ["self"] (spTTold B)) (bt : Binds K fdt ["self"] [])
    (Mb : Meth K B "back" gb) (Gb : FnOk P w K mg base (L2.CX P w) 13 gb fdb ["self", "hand"] (spTBack cs B C)) (bb : Binds K fdb ["self", "hand"] [])
    (Ma : Meth K B "again" ga) (Ga : FnOk P w K mg base (L2.CX P w) 13 ga fda ["self", "hand"] (spTAgain cs B C)) (ba : Binds K fda ["self", "hand"] []) :
    FnOk P w K mg base CX0 16 f fd ["_law_table", "_law_order_here", "_law_is_back"] (spLTurn cs B p) := by
  refine fun_okT F hcode sc_lturn (fun vs H Q E h => ?_) (fun A outer s H vs Q E hr h => ?_)
  · obtain ⟨tb, od, bk, a, S, O, n0, D0, ods, rfl, _⟩ := h
    rfl
  · obtain ⟨tb, od, bk, a0, S0, O, n0, D0, ods, rfl, hT, hL, hD, g0, p0, sg0, hod, nod, hin, hcnt, k⟩ := h
    have nd := sc_lturn.nd
    have hu := hr.units
    have r1 : Room 1 _ := hr.mono (by decide)
    have r15 : Room 15 _ := hr
    have szl : (9000 : Nat) < sizeLine := by decide
    refine ⟨_, (pss_cons (ps_for PassesOwn.never rfl (pi_list (pv 1)) (pg_name (i := 3) nd rfl (.inr rfl))
      (pss_cons (ps_set (i := 4) nd rfl (.inr rfl) (pe_meth0 (pv 0) X.cls Mt Gt r1 bt .nil pass0))
      (pss_cons (ps_if (pt_cmpR op_isN (pe_callC (names := capT) Gc r15 (by rfl) mc kc bc (fun _ _ => rfl) key_cT (pa_cons (pe_lamC TB rfl rfl fun y hy e => .inl (key_t y hy e)) pa_nil)) pe_non (nomark _)) (pss_one (ps_ret pe_non)) pss_nil)
      (pss_cons (ps_set (i := 5) nd rfl (.inr rfl) (pe_meth0 (pv 0) X.cls Mt Gt r1 bt .nil pass0))
      (pss_cons (ps_setLc (i := 6) (own := [("_law_k", 9)]) (g := gName 9) rfl nd rfl rfl (sw_true rfl rfl rfl (by decide +kernel)) (pi_range1 (by rfl) T.range (pa_cons (pe_callB call_len_seq (by rfl) T.len PySem.boot_len (pa_cons (pv 4) pa_nil)) pa_nil)) (blkOk_by (own := [("_law_k", 9)]) (N := nmLTurn) (sc := defScope s_lturned) (by decide +kernel)) (fun _ _ _ _ _ => pg_name (i := 9) nd rfl (Or.inl rfl)) (fun _ _ _ _ _ => pts_one (pt_cmpR (r := rNeD K) (op_neD hu) (pe_ix (r := rIxL K) ix_list (pv 4) (pv 9) (fun _ _ => rfl)) (pe_ix (r := rIxL K) ix_list (pv 5) (pv 9) (fun _ _ => rfl)) (nomark _))) (fun _ _ _ _ _ => pv 9))
      (pss_cons (ps_if (PW.pt (pw_or (pt_cmpR op_ne (pe_callB call_len_seq (by rfl) T.len PySem.boot_len (pa_cons (pv 6) pa_nil)) pe_int (nomark _)) (pw_or (pt_cmpR op_ne (pe_ix ix_tup (pe_ix ix_list (pv 4) (pe_ix ix_list (pv 6) pe_int (fun _ _ => rfl)) (fun _ _ => rfl)) pe_int (fun _ _ => rfl)) (pv 3) (nomark _)) (pw_or1 (pt_cmpR op_eq (pe_ix ix_tup (pe_ix ix_list (pv 5) (pe_ix ix_list (pv 6) pe_int (fun _ _ => rfl)) (fun _ _ => rfl)) pe_int (fun _ _ => rfl)) (pv 2) (nomark _)))))) (pss_one (ps_ret pe_bl)) pss_nil)
      (pss_cons (ps_setLc (i := 7) (own := [("_law_k", 9)]) (g := gName 9) rfl nd rfl rfl (sw_true rfl rfl rfl (by decide +kernel)) (pi_range1 (by rfl) T.range (pa_cons (pe_callB call_len_seq (by rfl) T.len PySem.boot_len (pa_cons (pv 4) pa_nil)) pa_nil)) (blkOk_by (own := [("_law_k", 9)]) (N := nmLTurn) (sc := defScope s_lturned) (by decide +kernel)) (fun _ _ _ _ _ => pg_name (i := 9) nd rfl (Or.inl rfl)) (fun _ _ _ _ _ => pts_one (PW.pt (pw_and (pt_cmpR (r := rEq) op_eq (pe_ix (r := rIxT K) ix_tup (pe_ix (r := rIxL K) ix_list (pv 4) (pv 9) (fun _ _ => rfl)) pe_int (fun _ _ => rfl)) (pv 3) (nomark _)) (pw_and1 (pt_val (pe_ix (r := rIxT K) ix_tup (pe_ix (r := rIxL K) ix_list (pv 4) (pv 9) (fun _ _ => rfl)) pe_int (fun _ _ => rfl))))))) (fun _ _ _ _ _ => pv 9))
      (pss_cons (ps_setLc (i := 8) (own := [("_law_k", 9)]) (g := gName 9) rfl nd rfl rfl (sw_true rfl rfl rfl (by decide +kernel)) (pi_range1 (by rfl) T.range (pa_cons (pe_callB call_len_seq (by rfl) T.len PySem.boot_len (pa_cons (pv 4) pa_nil)) pa_nil)) (blkOk_by (own := [("_law_k", 9)]) (N := nmLTurn) (sc := defScope s_lturned) (by decide +kernel)) (fun _ _ _ _ _ => pg_name (i := 9) nd rfl (Or.inl rfl)) (fun _ _ _ _ _ => pts_one (PW.pt (pw_and (pt_cmpR (r := rEq) op_eq (pe_ix (r := rIxT K) ix_tup (pe_ix (r := rIxL K) ix_list (pv 4) (pv 9) (fun _ _ => rfl)) pe_int (fun _ _ => rfl)) (pv 3) (nomark _)) (pw_and1 (pt_not (pt_val (pe_ix (r := rIxT K) ix_tup (pe_ix (r := rIxL K) ix_list (pv 4) (pv 9) (fun _ _ => rfl)) pe_int (fun _ _ => rfl)))))))) (fun _ _ _ _ _ => pv 9))
      (pss_one (ps_if (pt_cmpR op_ne (pe_ix ix_list (pv 6) pe_int (fun _ _ => rfl)) (pe_ifExp (pt_val (pv 2)) (pe_ix ix_list (pv 7) (pe_un un_neg pe_int) (fun _ _ => rfl)) (pe_ix ix_list (pv 8) pe_int (fun _ _ => rfl))) (nomark _)) (pss_one (ps_ret pe_bl)) pss_nil))))))))))
      (pss_one (ps_ret pe_bl))), ?_⟩
    refine ⟨_, rfl, od, rfl, ⟨_, SqL.of hod⟩, for_list (xs := nV ods) (fun i σ H' => ∃ (c3 c4 c5 c6 c7 c8 c9 : Option V) (a : TA) (S : TSt), σ = [some (.ref tb), some (.ref od), some (.bl bk), c3, c4, c5, c6, c7, c8, c9] ∧ Mv cs p tb a0 H a H' ∧ Tabs cs H' ∧ LamX.TabS H' p qTu ∧ TabD B H' tb a S ∧ GP S O n0 ∧ Ph D0 S ∧ S.signs = S0.signs ∧ S.spots.length = S0.spots.length ∧
        ∀ h, h < S0.spots.length → (S.undone.getD h []).length = if bk = true then (S0.undone.getD h []).length + (ods.take i).count h else (S0.undone.getD h []).length - (ods.take i).count h)
      ⟨none, none, none, none, none, none, none, a0, S0, rfl, Mv.start, hT, hL, hD, g0, p0, rfl, rfl, fun h _ => by simp⟩ (fun i σ H' _ h => ?_) ?_ ?_⟩
    · obtain ⟨_, _, _, _, _, _, _, a, S, _, mv, _⟩ := h
      exact SqL.of (mv.kn _ _ hod (.inl fun ps z => nomatch z) nod)
    · rintro i v σ H1 hv ⟨c3, c4, c5, c6, c7, c8, c9, a, S, rfl, mv, hT1, hL1, hD1, g, ph, esg, esp, eun⟩
      obtain ⟨h, hh, rfl⟩ := get_map hv
      have hm : h ∈ ods := List.mem_of_getElem? hh
      have hs0 := hin h hm
      have hs : h < S.spots.length := by rw [esp]; exact hs0
      have hun : h < S.undone.length := by rw [← g.hn]; exact hs
      have c0 := ods_le (ods := ods) (i := i + 1) (g := h)
      rw [count_succ hh, if_pos rfl] at c0
      have hc := hcnt h hs0
      have eu := eun h hs0
      -- told ahead
      refine ⟨_, rfl, tb, a.dx, _, rfl, hD1.ob, rfl, tnil_go ⟨tb, a, S, rfl, hD1, g.tok, fun DB H2 tl => ?_⟩⟩
      obtain ⟨ts, tB⟩ := told_of tl
      have x2 := tl.sm
      have nDB := tl.nD
      have mv2 := mv.same x2
      have hT2 := (same_ex x2 hT1).tab
      have hL2 : LamX.TabS H2 p qTu := tabS_kn (KN.same (cs := cs) x2) (A := fun _ => False) (fun c z => z.elim) ne hL1
      have hD2 := hD1.same x2
      have nB : ¬ ownT tb a DB := fun z => by
        rcases hD1.mob _ z with ⟨_, e⟩ | ⟨_, _, _, e⟩ <;> rw [e] at nDB <;> cases nDB
      clear mv hT1 hL1 hD1 tl x2
      -- the work
      refine ⟨hL2, fun f1 cc H3 e1 e2 t1 nf hf hcc cl Tc un => ?_⟩
      have lm : Lm p H2 H3 := ⟨e1, e2⟩
      have hf' : HfL f1 _ _ H3 := ⟨hf, hcc⟩
      have mv3 := mv2.lam lm hL2
      have hT3 := lm.tabs ne hT2
      have hD3 := hD2.gw (lm.ext hL2)
      have tB3 := tB.gw (lm.ext hL2)
      clear mv2 hT2 hL2 hD2 tB e1 e2 nf lm
      cases bk with
      | true =>
        refine couldT (it := 0) (ih := 3) (ib := 2) Tc un rfl rfl rfl rfl rfl rfl rfl (hf'.add un) (lok_t X Mb Gb bb Ma Ga ba) hD3 fun Z E' hZ hE => ?_
        have lt : (S.undone.getD h []).length < (ownD D0 h).length := by
          have c1 : ods.count h + (S0.undone.getD h []).length ≤ (ownD D0 h).length := hc
          have e1 : (S.undone.getD h []).length = (S0.undone.getD h []).length + (ods.take i).count h := eu
          omega
        obtain ⟨n, kk, hk, eK, hlast, nlt, n1, n2, next⟩ := ph.back hun lt
        have eS : (backR S h).2 = { settleR S S.signs S.order (turnR S n false) with undone := S.undone.set h (S.undone.getD h [] ++ [n]) } := by unfold backR; rw [hlast]
        have uu : (S.undone.getD h [] ++ [n]).length ≤ 9000 ∧ ∀ m ∈ S.undone.getD h [] ++ [n], m < S.deeds.length := by
          have l2 := ownD_len D0 h
          have l3 := g.m1.lD
          have l4 := ph.len
          refine ⟨by rw [List.length_append]; show (S.undone.getD h []).length + 1 ≤ 9000; omega, fun m hm => ?_⟩
          rcases List.mem_append.mp hm with q | q
          · exact (g.un _ (getD_mem hun)).2 m q
          · rw [List.mem_singleton] at q
            rw [q]
            exact nlt
        refine ⟨tb, h, a, S, rfl, hT3, hD3, g.tok, hs, fun m _ => g.setT m false, fun pg => ?_, fun m hm pgn H4 x4 => hE _ _ _ up fun hu4 _ => ?_⟩
        rotate_left
        · rw [del_add hu4]
          refine ⟨rfl, true, rfl, iteT ?_⟩
          exact k _ a S H4 (mv3.step (kn_ex' x4) (fun c z => .inl z) x4.old rfl) x4.tab (tabS_kn (kn_exA x4) (A := fun _ => False) (fun c z => z.elim) ne t1) (hD3.gw x4.ext) (.inl rfl)
        intro a' H4 est4 kn4 ow4 hT4 old4 hD4
        refine hZ _ _ fun hu4 _ => ?_
        rw [del_add hu4]
        have pgn := pg n hlast
        rw [eS] at hD4
        have g4 := g.turn n false (U := S.undone.set h (S.undone.getD h [] ++ [n])) (by rw [List.length_set]; exact g.hn) (unSet g.un (Nat.le_refl _) uu) pgn
        obtain ⟨ph4, eu4⟩ := next { settleR S S.signs S.order (turnR S n false) with undone := S.undone.set h (S.undone.getD h [] ++ [n]) } rfl rfl
        have mv4 := mv3.went kn4 ow4 old4 est4
        have hL4 := tabS_kn kn4 hD3.mob ne t1
        have nB3 : ¬ ownT tb a DB := nB
        have tB4 := tB3.km kn4.w hD3.mob nB3
        have es4 : ({ settleR S S.signs S.order (turnR S n false) with undone := S.undone.set h (S.undone.getD h [] ++ [n]) } : TSt).spots.length = S.spots.length := by
          show (S.spots.map _).length = _
          rw [List.length_map]
        have ed4 : ({ settleR S S.signs S.order (turnR S n false) with undone := S.undone.set h (S.undone.getD h [] ++ [n]) } : TSt).deeds = turnR S n false := rfl
        have eg4 : ({ settleR S S.signs S.order (turnR S n false) with undone := S.undone.set h (S.undone.getD h [] ++ [n]) } : TSt).signs = S.signs := rfl
        have eU4 : ({ settleR S S.signs S.order (turnR S n false) with undone := S.undone.set h (S.undone.getD h [] ++ [n]) } : TSt).undone = S.undone.set h (S.undone.getD h [] ++ [n]) := rfl
        generalize ({ settleR S S.signs S.order (turnR S n false) with undone := S.undone.set h (S.undone.getD h [] ++ [n]) } : TSt) = S' at hD4 g4 ph4 eu4 es4 ed4 eg4 eU4
        have eun' : ∀ q, q < S0.spots.length → (S'.undone.getD q []).length = (S0.undone.getD q []).length + (ods.take (i + 1)).count q := fun q hq => by
          rw [count_succ hh]
          by_cases c : h = q
          · subst c
            rw [if_pos rfl]
            have e1 : (S.undone.getD h []).length = (S0.undone.getD h []).length + (ods.take i).count h := eu
            omega
          · rw [if_neg c, eU4, getD_set hun, if_neg (fun z => c z.symm)]
            exact eun q hq
        clear eS uu mv3 hT3 hD3 tB3 kn4 ow4 old4 t1 hf hcc hf' un Tc hu4 hZ hE pg pgn next
        refine ⟨rfl, false, rfl, iteF ?_⟩
        refine ⟨_, rfl, tb, a'.dx, _, rfl, hD4.ob, rfl, tnil_go ⟨tb, a', S', rfl, hD4, g4.tok, fun DA H5 tl5 => ?_⟩⟩
        obtain ⟨ts5, tA⟩ := told_of tl5
        have x5 := tl5.sm
        have tB5 := tB4.same x5
        have lB : (((ts.map V.ref).length : Nat) : Int) = (S.deeds.length : Nat) := by rw [List.length_map, tB5.len]
        have lB2 : ((((ts.map V.ref).length : Nat) : Int)).toNat = S.deeds.length := by rw [lB]; rfl
        have lD := g.m1.lD
        have nlt' : n < S'.deeds.length := by rw [ed4, turnR_len]; exact nlt
        have sgB : ∀ j, j < S.deeds.length → SgD (S.deeds.getD j d0) := fun j hj => by
          have hj0 : j < D0.length := by rw [← ph.len]; exact hj
          rw [ph.dd j hj0]
          have : D0.getD j d0 ∈ D0 := by
            rw [List.getD_eq_getElem?_getD, List.getElem?_eq_getElem hj0]
            exact List.getElem_mem hj0
          show (D0.getD j d0).2.1 = "" ∨ MarkOk (D0.getD j d0).2.1
          exact sg0 _ this
        have aft : ∀ j, j < S.deeds.length → S'.deeds.getD j d0 = if j = n then ((S.deeds.getD n d0).1, (S.deeds.getD n d0).2.1, (S.deeds.getD n d0).2.2.1, false) else S.deeds.getD j d0 := fun j hj => by rw [ed4]; exact turnR_getD nlt
        have nd5 := tl5.nD
        clear tl5
        -- the one that is told otherwise
        refine ⟨_, rfl, DB, _, rfl, .inl (SqL.of tB5.lst), (((ts.map V.ref).length : Nat) : Int), rfl, by rw [lB]; omega, by rw [lB]; omega, fun D6 nD6 => lc_range (lo := 0) (n := ((((ts.map V.ref).length : Nat) : Int)).toNat) (fun j H' => Same H5 H' ∧ H' D6 = some (.lst (nV ((List.range j).filter fun i => decide (i = n))))) ⟨same_new nD6, upd_same⟩ ?_ ?_⟩
        · rintro j H6 hj ⟨x6, h6⟩
          rw [lB2] at hj
          rw [show (0 : Int) + (j : Nat) = (j : Nat) from Int.zero_add _]
          obtain ⟨t, e1, e2⟩ := (tB5.same x6).nth hj
          obtain ⟨u, e3, e4⟩ := (tA.same x6).nth (i := j) (by rw [ed4, turnR_len]; exact hj)
          have sB := sgB j hj
          have sA : SgD (S'.deeds.getD j d0) := by
            rw [aft j hj]
            by_cases c : j = n
            · rw [if_pos c]
              rw [← c]
              exact sB
            · rw [if_neg c]
              exact sB
          have ev : PyData.eqv (deedD (S.deeds.getD j d0)) (deedD (S'.deeds.getD j d0)) = !decide (j = n) := by
            rw [aft j hj]
            by_cases c : j = n
            · have q := eqv_deed (d := S.deeds.getD n d0) (e := ((S.deeds.getD n d0).1, (S.deeds.getD n d0).2.1, (S.deeds.getD n d0).2.2.1, false)) rfl rfl
              rw [if_pos c, c, q, n2]
              simp
            · rw [if_neg c, eqv_deed rfl rfl, decide_eq_false c]
              simp
          refine ⟨rfl, _, rfl, _, rfl, DB, _, _, .ref t, rfl, rfl, SqL.of (tB5.same x6).lst, atI_nat e1, _, rfl, _, rfl, DA, _, _, .ref u, rfl, rfl, SqL.of (tA.same x6).lst, atI_nat e3, deedD _, deedD _, dp_deed e2, dp_deed e4, shaped_deed sB, shaped_deed sA, ?_⟩
          rw [ev, Bool.not_not]
          refine ⟨_, rfl, ?_⟩
          have fs := filt_step (p := fun i => decide (i = n)) j
          by_cases c : j = n
          · rw [decide_eq_true c]
            rw [if_pos (decide_eq_true c)] at fs
            refine iteT ⟨_, rfl, _, h6, by rw [nV_len]; exact Nat.lt_of_le_of_lt (List.length_filter_le _ _) (by rw [List.length_range]; omega), fun q o hq => ?_, ?_⟩
            · rw [upd_ne (ne_of_none hq nD6)]
              exact x6 _ _ hq
            · rw [upd_same, fs]
              unfold nV
              rw [List.map_append]
              rfl
          · rw [decide_eq_false c]
            rw [if_neg (by simp [c]), List.append_nil] at fs
            refine iteF ⟨x6, ?_⟩
            rw [fs]
            exact h6
        rintro H6 ⟨x6, h6⟩
        rw [lB2, filt_one nlt] at h6
        have tB6 := tB5.same x6
        have tA6 := tA.same x6
        obtain ⟨t, e1, e2⟩ := tB6.nth nlt
        obtain ⟨u, e3, e4⟩ := tA6.nth nlt'
        have e2 : H6 t = some (.tup [.int (h : Nat), .str (S.deeds.getD n d0).2.1, .bl true]) := by
          rw [e2]
          unfold toldV
          rw [n1, n2]
        have e4 : H6 u = some (.tup [.int (h : Nat), .str (S.deeds.getD n d0).2.1, .bl false]) := by
          rw [e4, aft n nlt, if_pos rfl]
          unfold toldV
          rw [n1]
        refine ⟨_, rfl, D6, _, rfl, .inl (SqL.of h6), rfl, false, rfl, iteF ?_⟩
        refine ⟨_, rfl, _, rfl, D6, _, 0, .int (n : Nat), rfl, rfl, SqL.of h6, atI_nat (j := 0) rfl, DB, _, _, .ref t, rfl, rfl, SqL.of tB6.lst, atI_nat e1, t, _, 0, .int (h : Nat), rfl, rfl, SqT.of e2, atI_nat (j := 0) rfl, _, rfl, rfl, false, congrArg V.bl (by simp), iteF ?_⟩
        refine ⟨_, rfl, _, rfl, D6, _, 0, .int (n : Nat), rfl, rfl, SqL.of h6, atI_nat (j := 0) rfl, DA, _, _, .ref u, rfl, rfl, SqL.of tA6.lst, atI_nat e3, u, _, 2, .bl false, rfl, rfl, SqT.of e4, atI_nat (j := 2) rfl, _, rfl, rfl, false, rfl, iteF ?_⟩
        clear e1 e2 e3 e4
        -- its own that stand
        refine ⟨_, rfl, DB, _, rfl, .inl (SqL.of tB6.lst), (((ts.map V.ref).length : Nat) : Int), rfl, by rw [lB]; omega, by rw [lB]; omega, fun D7 nD7 => lc_range (lo := 0) (n := ((((ts.map V.ref).length : Nat) : Int)).toNat) (fun j H' => Same H6 H' ∧ H' D7 = some (.lst (nV (stR S.deeds h j)))) ⟨same_new nD7, upd_same⟩ ?_ ?_⟩
        · rintro j H7 hj ⟨x7, h7⟩
          rw [lB2] at hj
          rw [show (0 : Int) + (j : Nat) = (j : Nat) from Int.zero_add _]
          obtain ⟨t, e1, e2⟩ := (tB6.same x7).nth hj
          have fs : stR S.deeds h (j + 1) = _ := filt_step (p := fun i => decide ((S.deeds.getD i d0).1 = h) && (S.deeds.getD i d0).2.2.2) j
          refine ⟨rfl, _, rfl, _, rfl, DB, _, _, .ref t, rfl, rfl, SqL.of (tB6.same x7).lst, atI_nat e1, t, _, 0, .int ((S.deeds.getD j d0).1 : Nat), rfl, rfl, SqT.of e2, atI_nat (j := 0) rfl, _, rfl, rfl, decide ((S.deeds.getD j d0).1 = h), congrArg V.bl (by simp [Int.ofNat_inj]), ?_⟩
          by_cases c : (S.deeds.getD j d0).1 = h
          · rw [decide_eq_true c] at fs ⊢
            refine iteT ⟨_, rfl, _, rfl, DB, _, _, .ref t, rfl, rfl, SqL.of (tB6.same x7).lst, atI_nat e1, t, _, 2, .bl (S.deeds.getD j d0).2.2.2, rfl, rfl, SqT.of e2, atI_nat (j := 2) rfl, _, rfl, ?_⟩
            cases c2 : (S.deeds.getD j d0).2.2.2 with
            | true =>
              rw [c2, Bool.true_and, if_pos rfl] at fs
              refine iteT ⟨_, rfl, _, h7, by rw [nV_len]; exact Nat.lt_of_le_of_lt (stR_len _ _ _) (by omega), fun q o hq => ?_, ?_⟩
              · rw [upd_ne (ne_of_none hq nD7)]
                exact x7 _ _ hq
              · rw [upd_same, fs]
                unfold nV
                rw [List.map_append]
                rfl
            | false =>
              rw [c2, if_neg (by simp), List.append_nil] at fs
              refine iteF ⟨x7, ?_⟩
              rw [fs]
              exact h7
          · rw [decide_eq_false c] at fs ⊢
            rw [Bool.false_and, if_neg (by simp), List.append_nil] at fs
            refine iteF (iteF ⟨x7, ?_⟩)
            rw [fs]
            exact h7
        rintro H7 ⟨x7, h7⟩
        rw [lB2] at h7
        have tB7 := tB6.same x7
        have h6 := x7 _ _ h6
        -- its own that don't
        refine ⟨_, rfl, DB, _, rfl, .inl (SqL.of tB7.lst), (((ts.map V.ref).length : Nat) : Int), rfl, by rw [lB]; omega, by rw [lB]; omega, fun D8 nD8 => lc_range (lo := 0) (n := ((((ts.map V.ref).length : Nat) : Int)).toNat) (fun j H' => Same H7 H' ∧ H' D8 = some (.lst (nV ((List.range j).filter fun i => decide ((S.deeds.getD i d0).1 = h) && !(S.deeds.getD i d0).2.2.2)))) ⟨same_new nD8, upd_same⟩ ?_ ?_⟩
        · rintro j H8 hj ⟨x8, h8⟩
          rw [lB2] at hj
          rw [show (0 : Int) + (j : Nat) = (j : Nat) from Int.zero_add _]
          obtain ⟨t, e1, e2⟩ := (tB7.same x8).nth hj
          have fs := filt_step (p := fun i => decide ((S.deeds.getD i d0).1 = h) && !(S.deeds.getD i d0).2.2.2) j
          refine ⟨rfl, _, rfl, _, rfl, DB, _, _, .ref t, rfl, rfl, SqL.of (tB7.same x8).lst, atI_nat e1, t, _, 0, .int ((S.deeds.getD j d0).1 : Nat), rfl, rfl, SqT.of e2, atI_nat (j := 0) rfl, _, rfl, rfl, decide ((S.deeds.getD j d0).1 = h), congrArg V.bl (by simp [Int.ofNat_inj]), ?_⟩
          by_cases c : (S.deeds.getD j d0).1 = h
          · rw [decide_eq_true c] at fs ⊢
            refine iteT ⟨_, rfl, _, rfl, DB, _, _, .ref t, rfl, rfl, SqL.of (tB7.same x8).lst, atI_nat e1, t, _, 2, .bl (S.deeds.getD j d0).2.2.2, rfl, rfl, SqT.of e2, atI_nat (j := 2) rfl, _, rfl, ?_⟩
            cases c2 : (S.deeds.getD j d0).2.2.2 with
            | false =>
              rw [c2, Bool.true_and, Bool.not_false, if_pos rfl] at fs
              refine iteT ⟨_, rfl, _, h8, by rw [nV_len]; exact Nat.lt_of_le_of_lt (List.length_filter_le _ _) (by rw [List.length_range]; omega), fun q o hq => ?_, ?_⟩
              · rw [upd_ne (ne_of_none hq nD8)]
                exact x8 _ _ hq
              · rw [upd_same, fs]
                unfold nV
                rw [List.map_append]
                rfl
            | true =>
              rw [c2, if_neg (by simp), List.append_nil] at fs
              refine iteF ⟨x8, ?_⟩
              rw [fs]
              exact h8
          · rw [decide_eq_false c] at fs ⊢
            rw [Bool.false_and, if_neg (by simp), List.append_nil] at fs
            refine iteF (iteF ⟨x8, ?_⟩)
            rw [fs]
            exact h8
        rintro H8 ⟨x8, h8⟩
        rw [lB2] at h8
        have h6 := x8 _ _ h6
        have h7 := x8 _ _ h7
        have xs := same_trans (same_trans (same_trans x5 x6) x7) x8
        refine ⟨_, rfl, D6, _, 0, .int (n : Nat), rfl, rfl, SqL.of h6, atI_nat (j := 0) rfl, _, rfl, true, rfl, ?_⟩
        have hne : stR S.deeds h S.deeds.length ≠ [] := fun z => by rw [z] at hlast; cases hlast
        have hl := atN_last hne
        rw [hlast] at hl
        refine iteT ⟨_, rfl, 1, rfl, D7, _, _, .int (n : Nat), rfl, rfl, SqL.of h7, hl, rfl, false, congrArg V.bl (by simp), iteF ?_⟩
        exact ⟨_, _, _, _, _, _, _, a', S', rfl, mv4.same xs, (same_ex xs hT4).tab, tabS_kn (KN.same (cs := cs) xs) (A := fun _ => False) (fun c z => z.elim) ne hL4, hD4.same xs, g4, ph4, eg4.trans esg, es4.trans esp, eun'⟩
      | false =>
        refine couldT (it := 0) (ih := 3) (ib := 2) Tc un rfl rfl rfl rfl rfl rfl rfl (hf'.add un) (lok_t X Mb Gb bb Ma Ga ba) hD3 fun Z E' hZ hE => ?_
        have lt : 0 < (S.undone.getD h []).length := by
          have c1 : ods.count h ≤ (S0.undone.getD h []).length := hc
          have e1 : (S.undone.getD h []).length = (S0.undone.getD h []).length - (ods.take i).count h := eu
          omega
        obtain ⟨n, kk, hk, eK, hlast, nlt, n1, n2, next⟩ := ph.again hun lt
        have eS : (againR S h).2 = { settleR S S.signs S.order (turnR S n true) with undone := S.undone.set h (S.undone.getD h []).dropLast } := by unfold againR; rw [hlast]
        have uu : (S.undone.getD h []).dropLast.length ≤ 9000 ∧ ∀ m ∈ (S.undone.getD h []).dropLast, m < S.deeds.length := by
          have q := g.un _ (getD_mem hun)
          exact ⟨Nat.le_trans (by rw [List.length_dropLast]; exact Nat.sub_le _ _) q.1, fun m hm => q.2 m ((List.dropLast_sublist _).subset hm)⟩
        refine ⟨tb, h, a, S, rfl, hT3, hD3, g.tok, hs, fun m _ => g.setT m true, fun pg => ?_, fun m hm pgn H4 x4 => hE _ _ _ up fun hu4 _ => ?_⟩
        rotate_left
        · rw [del_add hu4]
          refine ⟨rfl, true, rfl, iteT ?_⟩
          exact k _ a S H4 (mv3.step (kn_ex' x4) (fun c z => .inl z) x4.old rfl) x4.tab (tabS_kn (kn_exA x4) (A := fun _ => False) (fun c z => z.elim) ne t1) (hD3.gw x4.ext) (.inl rfl)
        intro a' H4 est4 kn4 ow4 hT4 old4 hD4
        refine hZ _ _ fun hu4 _ => ?_
        rw [del_add hu4]
        have pgn := pg n hlast
        rw [eS] at hD4
        have g4 := g.turn n true (U := S.undone.set h ((S.undone.getD h []).dropLast)) (by rw [List.length_set]; exact g.hn) (unSet g.un (Nat.le_refl _) uu) pgn
        obtain ⟨ph4, eu4⟩ := next { settleR S S.signs S.order (turnR S n true) with undone := S.undone.set h ((S.undone.getD h []).dropLast) } rfl rfl
        have mv4 := mv3.went kn4 ow4 old4 est4
        have hL4 := tabS_kn kn4 hD3.mob ne t1
        have nB3 : ¬ ownT tb a DB := nB
        have tB4 := tB3.km kn4.w hD3.mob nB3
        have es4 : ({ settleR S S.signs S.order (turnR S n true) with undone := S.undone.set h ((S.undone.getD h []).dropLast) } : TSt).spots.length = S.spots.length := by
          show (S.spots.map _).length = _
          rw [List.length_map]
        have ed4 : ({ settleR S S.signs S.order (turnR S n true) with undone := S.undone.set h ((S.undone.getD h []).dropLast) } : TSt).deeds = turnR S n true := rfl
        have eg4 : ({ settleR S S.signs S.order (turnR S n true) with undone := S.undone.set h ((S.undone.getD h []).dropLast) } : TSt).signs = S.signs := rfl
        have eU4 : ({ settleR S S.signs S.order (turnR S n true) with undone := S.undone.set h ((S.undone.getD h []).dropLast) } : TSt).undone = S.undone.set h ((S.undone.getD h []).dropLast) := rfl
        generalize ({ settleR S S.signs S.order (turnR S n true) with undone := S.undone.set h ((S.undone.getD h []).dropLast) } : TSt) = S' at hD4 g4 ph4 eu4 es4 ed4 eg4 eU4
        have eun' : ∀ q, q < S0.spots.length → (S'.undone.getD q []).length = (S0.undone.getD q []).length - (ods.take (i + 1)).count q := fun q hq => by
          rw [count_succ hh]
          by_cases c : h = q
          · subst c
            rw [if_pos rfl]
            have e1 : (S.undone.getD h []).length = (S0.undone.getD h []).length - (ods.take i).count h := eu
            have c1 : ods.count h ≤ (S0.undone.getD h []).length := hc
            omega
          · rw [if_neg c, eU4, getD_set hun, if_neg (fun z => c z.symm)]
            exact eun q hq
        clear eS uu mv3 hT3 hD3 tB3 kn4 ow4 old4 t1 hf hcc hf' un Tc hu4 hZ hE pg pgn next
        refine ⟨rfl, false, rfl, iteF ?_⟩
        refine ⟨_, rfl, tb, a'.dx, _, rfl, hD4.ob, rfl, tnil_go ⟨tb, a', S', rfl, hD4, g4.tok, fun DA H5 tl5 => ?_⟩⟩
        obtain ⟨ts5, tA⟩ := told_of tl5
        have x5 := tl5.sm
        have tB5 := tB4.same x5
        have lB : (((ts.map V.ref).length : Nat) : Int) = (S.deeds.length : Nat) := by rw [List.length_map, tB5.len]
        have lB2 : ((((ts.map V.ref).length : Nat) : Int)).toNat = S.deeds.length := by rw [lB]; rfl
        have lD := g.m1.lD
        have nlt' : n < S'.deeds.length := by rw [ed4, turnR_len]; exact nlt
        have sgB : ∀ j, j < S.deeds.length → SgD (S.deeds.getD j d0) := fun j hj => by
          have hj0 : j < D0.length := by rw [← ph.len]; exact hj
          rw [ph.dd j hj0]
          have : D0.getD j d0 ∈ D0 := by
            rw [List.getD_eq_getElem?_getD, List.getElem?_eq_getElem hj0]
            exact List.getElem_mem hj0
          show (D0.getD j d0).2.1 = "" ∨ MarkOk (D0.getD j d0).2.1
          exact sg0 _ this
        have aft : ∀ j, j < S.deeds.length → S'.deeds.getD j d0 = if j = n then ((S.deeds.getD n d0).1, (S.deeds.getD n d0).2.1, (S.deeds.getD n d0).2.2.1, true) else S.deeds.getD j d0 := fun j hj => by rw [ed4]; exact turnR_getD nlt
        have nd5 := tl5.nD
        clear tl5
        -- the one that is told otherwise
        refine ⟨_, rfl, DB, _, rfl, .inl (SqL.of tB5.lst), (((ts.map V.ref).length : Nat) : Int), rfl, by rw [lB]; omega, by rw [lB]; omega, fun D6 nD6 => lc_range (lo := 0) (n := ((((ts.map V.ref).length : Nat) : Int)).toNat) (fun j H' => Same H5 H' ∧ H' D6 = some (.lst (nV ((List.range j).filter fun i => decide (i = n))))) ⟨same_new nD6, upd_same⟩ ?_ ?_⟩
        · rintro j H6 hj ⟨x6, h6⟩
          rw [lB2] at hj
          rw [show (0 : Int) + (j : Nat) = (j : Nat) from Int.zero_add _]
          obtain ⟨t, e1, e2⟩ := (tB5.same x6).nth hj
          obtain ⟨u, e3, e4⟩ := (tA.same x6).nth (i := j) (by rw [ed4, turnR_len]; exact hj)
          have sB := sgB j hj
          have sA : SgD (S'.deeds.getD j d0) := by
            rw [aft j hj]
            by_cases c : j = n
            · rw [if_pos c]
              rw [← c]
              exact sB
            · rw [if_neg c]
              exact sB
          have ev : PyData.eqv (deedD (S.deeds.getD j d0)) (deedD (S'.deeds.getD j d0)) = !decide (j = n) := by
            rw [aft j hj]
            by_cases c : j = n
            · have q := eqv_deed (d := S.deeds.getD n d0) (e := ((S.deeds.getD n d0).1, (S.deeds.getD n d0).2.1, (S.deeds.getD n d0).2.2.1, true)) rfl rfl
              rw [if_pos c, c, q, n2]
              simp
            · rw [if_neg c, eqv_deed rfl rfl, decide_eq_false c]
              simp
          refine ⟨rfl, _, rfl, _, rfl, DB, _, _, .ref t, rfl, rfl, SqL.of (tB5.same x6).lst, atI_nat e1, _, rfl, _, rfl, DA, _, _, .ref u, rfl, rfl, SqL.of (tA.same x6).lst, atI_nat e3, deedD _, deedD _, dp_deed e2, dp_deed e4, shaped_deed sB, shaped_deed sA, ?_⟩
          rw [ev, Bool.not_not]
          refine ⟨_, rfl, ?_⟩
          have fs := filt_step (p := fun i => decide (i = n)) j
          by_cases c : j = n
          · rw [decide_eq_true c]
            rw [if_pos (decide_eq_true c)] at fs
            refine iteT ⟨_, rfl, _, h6, by rw [nV_len]; exact Nat.lt_of_le_of_lt (List.length_filter_le _ _) (by rw [List.length_range]; omega), fun q o hq => ?_, ?_⟩
            · rw [upd_ne (ne_of_none hq nD6)]
              exact x6 _ _ hq
            · rw [upd_same, fs]
              unfold nV
              rw [List.map_append]
              rfl
          · rw [decide_eq_false c]
            rw [if_neg (by simp [c]), List.append_nil] at fs
            refine iteF ⟨x6, ?_⟩
            rw [fs]
            exact h6
        rintro H6 ⟨x6, h6⟩
        rw [lB2, filt_one nlt] at h6
        have tB6 := tB5.same x6
        have tA6 := tA.same x6
        obtain ⟨t, e1, e2⟩ := tB6.nth nlt
        obtain ⟨u, e3, e4⟩ := tA6.nth nlt'
        have e2 : H6 t = some (.tup [.int (h : Nat), .str (S.deeds.getD n d0).2.1, .bl false]) := by
          rw [e2]
          unfold toldV
          rw [n1, n2]
        have e4 : H6 u = some (.tup [.int (h : Nat), .str (S.deeds.getD n d0).2.1, .bl true]) := by
          rw [e4, aft n nlt, if_pos rfl]
          unfold toldV
          rw [n1]
        refine ⟨_, rfl, D6, _, rfl, .inl (SqL.of h6), rfl, false, rfl, iteF ?_⟩
        refine ⟨_, rfl, _, rfl, D6, _, 0, .int (n : Nat), rfl, rfl, SqL.of h6, atI_nat (j := 0) rfl, DB, _, _, .ref t, rfl, rfl, SqL.of tB6.lst, atI_nat e1, t, _, 0, .int (h : Nat), rfl, rfl, SqT.of e2, atI_nat (j := 0) rfl, _, rfl, rfl, false, congrArg V.bl (by simp), iteF ?_⟩
        refine ⟨_, rfl, _, rfl, D6, _, 0, .int (n : Nat), rfl, rfl, SqL.of h6, atI_nat (j := 0) rfl, DA, _, _, .ref u, rfl, rfl, SqL.of tA6.lst, atI_nat e3, u, _, 2, .bl true, rfl, rfl, SqT.of e4, atI_nat (j := 2) rfl, _, rfl, rfl, false, rfl, iteF ?_⟩
        clear e1 e2 e3 e4
        -- its own that stand
        refine ⟨_, rfl, DB, _, rfl, .inl (SqL.of tB6.lst), (((ts.map V.ref).length : Nat) : Int), rfl, by rw [lB]; omega, by rw [lB]; omega, fun D7 nD7 => lc_range (lo := 0) (n := ((((ts.map V.ref).length : Nat) : Int)).toNat) (fun j H' => Same H6 H' ∧ H' D7 = some (.lst (nV (stR S.deeds h j)))) ⟨same_new nD7, upd_same⟩ ?_ ?_⟩
        · rintro j H7 hj ⟨x7, h7⟩
          rw [lB2] at hj
          rw [show (0 : Int) + (j : Nat) = (j : Nat) from Int.zero_add _]
          obtain ⟨t, e1, e2⟩ := (tB6.same x7).nth hj
          have fs : stR S.deeds h (j + 1) = _ := filt_step (p := fun i => decide ((S.deeds.getD i d0).1 = h) && (S.deeds.getD i d0).2.2.2) j
          refine ⟨rfl, _, rfl, _, rfl, DB, _, _, .ref t, rfl, rfl, SqL.of (tB6.same x7).lst, atI_nat e1, t, _, 0, .int ((S.deeds.getD j d0).1 : Nat), rfl, rfl, SqT.of e2, atI_nat (j := 0) rfl, _, rfl, rfl, decide ((S.deeds.getD j d0).1 = h), congrArg V.bl (by simp [Int.ofNat_inj]), ?_⟩
          by_cases c : (S.deeds.getD j d0).1 = h
          · rw [decide_eq_true c] at fs ⊢
            refine iteT ⟨_, rfl, _, rfl, DB, _, _, .ref t, rfl, rfl, SqL.of (tB6.same x7).lst, atI_nat e1, t, _, 2, .bl (S.deeds.getD j d0).2.2.2, rfl, rfl, SqT.of e2, atI_nat (j := 2) rfl, _, rfl, ?_⟩
            cases c2 : (S.deeds.getD j d0).2.2.2 with
            | true =>
              rw [c2, Bool.true_and, if_pos rfl] at fs
              refine iteT ⟨_, rfl, _, h7, by rw [nV_len]; exact Nat.lt_of_le_of_lt (stR_len _ _ _) (by omega), fun q o hq => ?_, ?_⟩
              · rw [upd_ne (ne_of_none hq nD7)]
                exact x7 _ _ hq
              · rw [upd_same, fs]
                unfold nV
                rw [List.map_append]
                rfl
            | false =>
              rw [c2, if_neg (by simp), List.append_nil] at fs
              refine iteF ⟨x7, ?_⟩
              rw [fs]
              exact h7
          · rw [decide_eq_false c] at fs ⊢
            rw [Bool.false_and, if_neg (by simp), List.append_nil] at fs
            refine iteF (iteF ⟨x7, ?_⟩)
            rw [fs]
            exact h7
        rintro H7 ⟨x7, h7⟩
        rw [lB2] at h7
        have tB7 := tB6.same x7
        have h6 := x7 _ _ h6
        -- its own that don't
        refine ⟨_, rfl, DB, _, rfl, .inl (SqL.of tB7.lst), (((ts.map V.ref).length : Nat) : Int), rfl, by rw [lB]; omega, by rw [lB]; omega, fun D8 nD8 => lc_range (lo := 0) (n := ((((ts.map V.ref).length : Nat) : Int)).toNat) (fun j H' => Same H7 H' ∧ H' D8 = some (.lst (nV ((List.range j).filter fun i => decide ((S.deeds.getD i d0).1 = h) && !(S.deeds.getD i d0).2.2.2)))) ⟨same_new nD8, upd_same⟩ ?_ ?_⟩
        · rintro j H8 hj ⟨x8, h8⟩
          rw [lB2] at hj
          rw [show (0 : Int) + (j : Nat) = (j : Nat) from Int.zero_add _]
          obtain ⟨t, e1, e2⟩ := (tB7.same x8).nth hj
          have fs := filt_step (p := fun i => decide ((S.deeds.getD i d0).1 = h) && !(S.deeds.getD i d0).2.2.2) j
          refine ⟨rfl, _, rfl, _, rfl, DB, _, _, .ref t, rfl, rfl, SqL.of (tB7.same x8).lst, atI_nat e1, t, _, 0, .int ((S.deeds.getD j d0).1 : Nat), rfl, rfl, SqT.of e2, atI_nat (j := 0) rfl, _, rfl, rfl, decide ((S.deeds.getD j d0).1 = h), congrArg V.bl (by simp [Int.ofNat_inj]), ?_⟩
          by_cases c : (S.deeds.getD j d0).1 = h
          · rw [decide_eq_true c] at fs ⊢
            refine iteT ⟨_, rfl, _, rfl, DB, _, _, .ref t, rfl, rfl, SqL.of (tB7.same x8).lst, atI_nat e1, t, _, 2, .bl (S.deeds.getD j d0).2.2.2, rfl, rfl, SqT.of e2, atI_nat (j := 2) rfl, _, rfl, ?_⟩
            cases c2 : (S.deeds.getD j d0).2.2.2 with
            | false =>
              rw [c2, Bool.true_and, Bool.not_false, if_pos rfl] at fs
              refine iteT ⟨_, rfl, _, h8, by rw [nV_len]; exact Nat.lt_of_le_of_lt (List.length_filter_le _ _) (by rw [List.length_range]; omega), fun q o hq => ?_, ?_⟩
              · rw [upd_ne (ne_of_none hq nD8)]
                exact x8 _ _ hq
              · rw [upd_same, fs]
                unfold nV
                rw [List.map_append]
                rfl
            | true =>
              rw [c2, if_neg (by simp), List.append_nil] at fs
              refine iteF ⟨x8, ?_⟩
              rw [fs]
              exact h8
          · rw [decide_eq_false c] at fs ⊢
            rw [Bool.false_and, if_neg (by simp), List.append_nil] at fs
            refine iteF (iteF ⟨x8, ?_⟩)
            rw [fs]
            exact h8
        rintro H8 ⟨x8, h8⟩
        rw [lB2] at h8
        have h6 := x8 _ _ h6
        have h7 := x8 _ _ h7
        have xs := same_trans (same_trans (same_trans x5 x6) x7) x8
        refine ⟨_, rfl, D6, _, 0, .int (n : Nat), rfl, rfl, SqL.of h6, atI_nat (j := 0) rfl, _, rfl, false, rfl, ?_⟩
        rw [ph.lost eK] at h8
        have hl : ((ownD D0 h).drop kk)[0]? = some n := by rw [List.getElem?_drop, Nat.add_zero]; exact hk
        refine iteF ⟨_, rfl, D8, _, 0, .int (n : Nat), rfl, rfl, SqL.of h8, atI_nat (j := 0) (nV_get hl), rfl, false, congrArg V.bl (by simp), iteF ?_⟩
        exact ⟨_, _, _, _, _, _, _, a', S', rfl, mv4.same xs, (same_ex xs hT4).tab, tabS_kn (KN.same (cs := cs) xs) (A := fun _ => False) (fun c z => z.elim) ne hL4, hD4.same xs, g4, ph4, eg4.trans esg, es4.trans esp, eun'⟩
    · rintro σ H1 ⟨c3, c4, c5, c6, c7, c8, c9, a, S, rfl, mv, hT1, hL1, hD1, g, ph, esg, esp, eun⟩
      refine k _ a S H1 mv hT1 hL1 hD1 (.inr ⟨rfl, g, ph, esg, esp, fun h hh => ?_⟩)
      have := eun h hh
      rw [nV_len, List.take_length] at this
      exact this
end
end TG

namespace TG
open PySem PySem.Spec PyProof.Rows L2 NdefX GenW Gx Lv Dl
/-! ### a place of a function -/
def fset {α : Type} (f : Nat → α) (i : Nat) (x : α) : Nat → α := fun j => if j = i then x else f j
theorem fset_same {α : Type} {f : Nat → α} {i : Nat} {x : α} : fset f i x i = x := if_pos rfl
theorem fset_ne {α : Type} {f : Nat → α} {i j : Nat} {x : α} (h : j ≠ i) : fset f i x j = f j := if_neg h
theorem mob_some {H : Hp} {A : Addr → Prop} (m : Mob H A) {c : Addr} (h : A c) : H c ≠ none := fun e => by
  rcases m c h with ⟨_, w⟩ | ⟨_, _, _, w⟩ <;> rw [e] at w <;> cases w
abbrev qLw : Str := ("law" : Str) ++ ".<locals>." ++ "<lambda>"
theorem sqT_kmx {K : PySem.W.Frag} {A : Addr → Prop} {H H' : Hp} {p : Addr} {xs : List V} (x : KM A H H') (m : Mob H A) (h : SqT K H p xs) : SqT K H' p xs := by
  have nt : ∀ {o : HO}, H p = some o → (∀ us, o ≠ .lst us) → (∀ C dx fs, o ≠ .ins C dx fs) → ¬ A p := fun h n1 n2 z => by
    rcases m _ z with ⟨us, e⟩ | ⟨C, dx, fs, e⟩ <;> rw [e] at h <;> cases h
    · exact n1 _ rfl
    · exact n2 _ _ _ rfl
  rcases h with (h | ⟨u, h⟩) | h
  · exact .inl (.inl (x _ _ h (fun ps z => by cases z) (nt h (fun us z => by cases z) fun C dx fs z => by cases z)))
  · exact .inl (.inr ⟨u, x _ _ h (fun ps z => by cases z) (nt h (fun us z => by cases z) fun C dx fs z => by cases z)⟩)
  · exact .inr h
/-- two tables, the box, places of lists that stay -/
structure SitP (K : PySem.W.Frag) (cs : List (Addr × Addr)) (B p1 p2 b l st : Addr) (gap least : Int) (ta : Nat → Addr) (Z : Addr → Prop) (aa : Nat → TA) (Ss : Nat → TSt) (H : Hp) : Prop where
  box : BoxAt H b l
  tab : Tabs cs H
  l1 : LamX.TabS H p1 qTu
  l2 : LamX.TabS H p2 qLw
  sty : StyleAt K H st gap least
  tt : ∀ i, i < 2 → TabD B H (ta i) (aa i) (Ss i)
  est : ∀ i, i < 2 → (aa i).st = st
  d1 : ∀ i, i < 2 → ∀ c, ownT (ta i) (aa i) c → c ≠ b ∧ c ≠ l
  d2 : ∀ i j, i < 2 → j < 2 → i ≠ j → ∀ c, ownT (ta i) (aa i) c → ¬ ownT (ta j) (aa j) c
  zb : ∀ c, Z c → c ≠ b ∧ c ≠ l
  zt : ∀ c, Z c → ∀ i, i < 2 → ¬ ownT (ta i) (aa i) c
  ze : ∀ c, Z c → ∃ us, H c = some (.lst us)
section
variable {K : PySem.W.Frag} {cs : List (Addr × Addr)} {B p1 p2 b l st : Addr} {gap least : Int} {ta : Nat → Addr} {Z : Addr → Prop} {aa : Nat → TA} {Ss Ss' : Nat → TSt} {H H' : Hp} {a' : TA} {S' : TSt} {i : Nat}
theorem SitP.cong (o : SitP K cs B p1 p2 b l st gap least ta Z aa Ss H) (e : ∀ i, i < 2 → Ss i = Ss' i) : SitP K cs B p1 p2 b l st gap least ta Z aa Ss' H :=
  { o with tt := fun i hi => by rw [← e i hi]; exact o.tt i hi }
theorem SitP.gw (o : SitP K cs B p1 p2 b l st gap least ta Z aa Ss H) (x : LamX.ExtN H H') (t : Tabs cs H') (t1 : LamX.TabS H' p1 qTu) (t2 : LamX.TabS H' p2 qLw) : SitP K cs B p1 p2 b l st gap least ta Z aa Ss H' :=
  ⟨box_ext o.box x, t, t1, t2, ⟨by
    rcases o.sty.tup with (h | ⟨u, h⟩) | h
    · exact .inl (.inl (x _ _ h fun ps z => by cases z))
    · exact .inl (.inr ⟨u, x _ _ h fun ps z => by cases z⟩)
    · exact .inr h, o.sty.g0, o.sty.g1, o.sty.l0, o.sty.l1⟩, fun i hi => (o.tt i hi).gw x, o.est, o.d1, o.d2, o.zb, o.zt, fun c hc => by
    obtain ⟨us, h⟩ := o.ze c hc
    exact ⟨us, x _ _ h fun ps z => nomatch z⟩⟩
theorem SitP.ex (o : SitP K cs B p1 p2 b l st gap least ta Z aa Ss H) (n1 : ApartT cs p1) (n2 : ApartT cs p2) (x : Ex cs H H') : SitP K cs B p1 p2 b l st gap least ta Z aa Ss H' := by
  have mF : Mob H (fun _ => False) := fun c z => z.elim
  exact o.gw x.ext x.tab (tabS_kn (kn_exA x) mF n1 o.l1) (tabS_kn (kn_exA x) mF n2 o.l2)
theorem SitP.lam2 (o : SitP K cs B p1 p2 b l st gap least ta Z aa Ss H) (n2 : ApartT cs p2) (n : p1 ≠ p2) (m : Lm p2 H H') (t : LamX.TabS H' p2 qLw) : SitP K cs B p1 p2 b l st gap least ta Z aa Ss H' :=
  o.gw (m.ext o.l2) (m.tabs n2 o.tab) (tabS_lm m n o.l2 o.l1) t
theorem SitP.draw (o : SitP K cs B p1 p2 b l st gap least ta Z aa Ss H) (n1 : ApartT cs p1) (n2 : ApartT cs p2) (x : KB b l H H') (hB : BoxAt H' b l) : SitP K cs B p1 p2 b l st gap least ta Z aa Ss H' ∧ Kp Z H H' := by
  have y : KN cs (fun c => c = b ∨ c = l) H H' := fun c o h _ n => x c o h (fun z => n (.inl z)) fun z => n (.inr z)
  have m := box_mob' o.box
  have tabs : Tabs cs H' := fun r hr => by
    obtain ⟨ps, h1, h2⟩ := o.tab r hr
    refine ⟨ps, x _ _ h1 (fun z => ?_) (fun z => ?_), h2⟩
    · rcases m r.2 (.inl z) with ⟨us, e⟩ | ⟨C, dx, fs, e⟩ <;> rw [h1] at e <;> cases e
    · rcases m r.2 (.inr z) with ⟨us, e⟩ | ⟨C, dx, fs, e⟩ <;> rw [h1] at e <;> cases e
  exact ⟨⟨hB, tabs, tabS_kn y m n1 o.l1, tabS_kn y m n2 o.l2, ⟨sqT_kmx y.w m o.sty.tup, o.sty.g0, o.sty.g1, o.sty.l0, o.sty.l1⟩, fun i hi => (o.tt i hi).km y.w m fun c hc z => by
    obtain ⟨q1, q2⟩ := o.d1 i hi c hc
    exact z.elim q1 q2, o.est, o.d1, o.d2, o.zb, o.zt, fun c hc => by
    obtain ⟨us, h⟩ := o.ze c hc
    exact ⟨us, x _ _ h (o.zb c hc).1 (o.zb c hc).2⟩⟩, Kp.km y.w m fun c hc z => by
    obtain ⟨q1, q2⟩ := o.zb c hc
    exact z.elim q1 q2⟩
theorem apart1 (n2 : ApartT cs p2) (nn : p1 ≠ p2) : ApartT ((p1, p1) :: cs) p2 := fun r hr => by
  rcases List.mem_cons.mp hr with e | e
  · rw [e]; exact nn
  · exact n2 r e
/-- a table does something -/
theorem SitP.table (o : SitP K cs B p1 p2 b l st gap least ta Z aa Ss H) (n2 : ApartT cs p2) (nn : p1 ≠ p2) (hi : i < 2) (m : Mv cs p1 (ta i) (aa i) H a' H') (t : Tabs cs H') (t1 : LamX.TabS H' p1 qTu) (td : TabD B H' (ta i) a' S') :
    SitP K cs B p1 p2 b l st gap least ta Z (fset aa i a') (fset Ss i S') H' ∧ Kp Z H H' := by
  have mo := (o.tt i hi).mob
  have nbl : ∀ c, H c = none → c ≠ b ∧ c ≠ l := fun c hc => box_ne' o.box hc
  obtain ⟨ns, s1, e1, e2, e3⟩ := id o.box
  have nZ : ∀ c, Z c → ¬ ownT (ta i) (aa i) c := fun c hc => o.zt c hc i hi
  refine ⟨⟨⟨ns, s1, m.kn _ _ e1 (.inl fun ps z => nomatch z) (fun z => (o.d1 i hi b z).1 rfl), m.kn _ _ e2 (.inl fun ps z => nomatch z) (fun z => (o.d1 i hi l z).2 rfl), e3⟩, t, t1, tabS_kn m.kn mo (apart1 n2 nn) o.l2, ⟨sqT_kmx m.kn.w mo o.sty.tup, o.sty.g0, o.sty.g1, o.sty.l0, o.sty.l1⟩, fun j hj => ?_, fun j hj => ?_, fun j hj c hc => ?_, fun j j' hj hj' n c hc hc' => ?_, o.zb, fun c hc j hj z => ?_, fun c hc => ?_⟩, Kp.km m.kn.w mo nZ⟩
  · by_cases e : j = i
    · rw [e, fset_same, fset_same]; exact td
    · rw [fset_ne e, fset_ne e]
      exact (o.tt j hj).km m.kn.w mo fun c hc z => o.d2 j i hj hi e c hc z
  · by_cases e : j = i
    · rw [e, fset_same, m.est]; exact o.est i hi
    · rw [fset_ne e]; exact o.est j hj
  · by_cases e : j = i
    · rw [e, fset_same] at hc
      rcases m.ow c hc with z | z
      · exact o.d1 i hi c z
      · exact nbl c z
    · rw [fset_ne e] at hc
      exact o.d1 j hj c hc
  · by_cases e : j = i
    · rw [e, fset_same] at hc
      have e' : j' ≠ i := fun z => n (e.trans z.symm)
      rw [fset_ne e'] at hc'
      rcases m.ow c hc with z | z
      · exact o.d2 i j' hi hj' (fun z => e' z.symm) c z hc'
      · exact mob_some (o.tt j' hj').mob hc' z
    · rw [fset_ne e] at hc
      by_cases e' : j' = i
      · rw [e', fset_same] at hc'
        rcases m.ow c hc' with z | z
        · exact o.d2 j i hj hi e c hc z
        · exact mob_some (o.tt j hj).mob hc z
      · rw [fset_ne e'] at hc'
        exact o.d2 j j' hj hj' n c hc hc'
  · obtain ⟨us, hus⟩ := o.ze c hc
    by_cases e : j = i
    · rw [e, fset_same] at z
      rcases m.ow c z with q | q
      · exact nZ c hc q
      · rw [hus] at q; cases q
    · rw [fset_ne e] at z
      exact o.zt c hc j hj z
  · obtain ⟨us, hus⟩ := o.ze c hc
    exact ⟨us, m.kn _ _ hus (.inl fun ps z => nomatch z) (nZ c hc)⟩
/-- a new list is kept -/
theorem SitP.add (o : SitP K cs B p1 p2 b l st gap least ta Z aa Ss H) (n1 : ApartT cs p1) (n2 : ApartT cs p2) (x : Ex cs H H') {Z' : Addr → Prop} (hz : ∀ c, Z' c → Z c ∨ (H c = none ∧ ∃ us, H' c = some (.lst us))) : SitP K cs B p1 p2 b l st gap least ta Z' aa Ss H' := by
  have o' := o.ex n1 n2 x
  refine { o' with zb := fun c hc => ?_, zt := fun c hc i hi z => ?_, ze := fun c hc => ?_ }
  · rcases hz c hc with q | ⟨q, _⟩
    · exact o.zb c q
    · exact box_ne' o.box q
  · rcases hz c hc with q | ⟨q, _⟩
    · exact o.zt c q i hi z
    · exact mob_some (o.tt i hi).mob z q
  · rcases hz c hc with q | ⟨_, q⟩
    · exact o'.ze c q
    · exact q
/-- one of the kept lists is written -/
theorem SitP.wr (o : SitP K cs B p1 p2 b l st gap least ta Z aa Ss H) (n1 : ApartT cs p1) (n2 : ApartT cs p2) {c : Addr} (hz : Z c) (ws : List V) : SitP K cs B p1 p2 b l st gap least ta Z aa Ss (upd H c (.lst ws)) := by
  obtain ⟨us, hc⟩ := o.ze c hz
  have y : KN cs (fun q => q = c) H (upd H c (.lst ws)) := fun q u h _ n => by rw [upd_ne n]; exact h
  have m : Mob H (fun q => q = c) := fun q e => .inl ⟨us, e ▸ hc⟩
  obtain ⟨q1, q2⟩ := o.zb c hz
  refine ⟨box_upd' o.box q1 q2, tabs_lst o.tab hc, tabS_kn y m n1 o.l1, tabS_kn y m n2 o.l2, ⟨sqT_kmx y.w m o.sty.tup, o.sty.g0, o.sty.g1, o.sty.l0, o.sty.l1⟩, fun i hi => (o.tt i hi).km y.w m fun d hd z => o.zt c hz i hi (z ▸ hd), o.est, o.d1, o.d2, o.zb, o.zt, fun d hd => ?_⟩
  by_cases e : d = c
  · exact ⟨ws, by rw [e, upd_same]⟩
  · obtain ⟨vs, h⟩ := o.ze d hd
    exact ⟨vs, by rw [upd_ne e]; exact h⟩
theorem Kp.wr {c : Addr} {ws us : List V} (h : H c = some (.lst us)) (nz : ¬ Z c) : Kp Z H (upd H c (.lst ws)) := ⟨fun d vs hd e => by rw [upd_ne fun z => nz (by rw [← z]; exact hd)]; exact e, fun d vs e => by rw [upd_ne fun z => by rw [z, h] at e; cases e]; exact e⟩
end
theorem dpz_page {K : PySem.W.Frag} {Z : Addr → Prop} {H : Hp} {r : Addr} {ps : List Addr} {rows : List (List Str)} (hr : H r = some (.lst (ps.map V.ref))) (hz : Z r) (hp : RowsAt ps rows H) : DpZ K Z H (.ref r) (.list (rowsD rows)) := fun H' x =>
  .lst (SqL.of (x.ls _ _ hz hr)) (dp_rows hp.len fun i q z h1 h2 => SqT.of (x.tp _ _ (hp.row i q z h1 h2)))
theorem dpz_told {K : PySem.W.Frag} {Z : Addr → Prop} {H : Hp} {r : Addr} {es : List Addr} {f : Nat → List Int} {n : Nat} (t : ToldAt H r es f n) (hz : Z r) (he : ∀ e ∈ es, Z e) : DpZ K Z H (.ref r) (toldD f n) := fun H' x =>
  dp_told ⟨x.ls _ _ hz t.lst, t.len, t.nd, fun i e h => x.ls _ _ (he e (List.mem_of_getElem? h)) (t.at_ i e h)⟩
theorem dpz_deeds {K : PySem.W.Frag} {Z : Addr → Prop} {H : Hp} {D : Addr} {ds : List Deed} {ts : List Addr} (h1 : H D = some (.lst (ts.map V.ref))) (h2 : ts.length = (ds.map toldV).length) (h3 : ∀ (j : Nat) (t : Addr) (v : List V), ts[j]? = some t → (ds.map toldV)[j]? = some v → H t = some (.tup v)) (hz : Z D) : DpZ K Z H (.ref D) (.list (ds.map deedD)) := fun H' x => by
  refine .lst (SqL.of (x.ls _ _ hz h1)) (dpAll_of (by rw [List.length_map, List.length_map, h2, List.length_map]) fun i v d e1 e2 => ?_)
  obtain ⟨t, ht, rfl⟩ := get_map e1
  obtain ⟨q, hq, rfl⟩ := get_map e2
  have := h3 i t (toldV q) ht (by rw [List.getElem?_map, hq]; rfl)
  exact .tup (SqT.of (x.tp _ _ this)) (.cons (.int _) (.cons (.str _) (.cons (.bl _) .nil)))
theorem canAll_of {l : List PyData} (h : ∀ d ∈ l, PyData.canLay0 d = true) : PyData.canLayAll0 l = true := by
  induction l with
  | nil => rfl
  | cons d l ih =>
    simp only [PyData.canLayAll0, Bool.and_eq_true]
    exact ⟨h d List.mem_cons_self, ih fun x hx => h x (List.mem_cons_of_mem _ hx)⟩
theorem can_told (f : Nat → List Int) (n : Nat) : PyData.canLay0 (toldD f n) = true := by
  unfold toldD
  simp only [PyData.canLay0]
  refine canAll_of fun d hd => ?_
  obtain ⟨i, _, rfl⟩ := List.mem_map.mp hd
  simp only [PyData.canLay0]
  exact canAll_ints _
def rowsS (S : TSt) : List (List Str) := pageR S.signs S.order S.deeds
def foundD (S : TSt) (gap least : Int) : PyData := .list [.list (rowsD (rowsS S)), toldD (begsR (rowsS S) gap least) (rowsS S).length, .list (S.deeds.map deedD)]
def lastD (S : TSt) : PyData := .list [.list (rowsD (rowsS S)), .list (S.deeds.map deedD)]
theorem can_deeds {D : List Deed} (h : ∀ d ∈ D, SgD d) : PyData.canLay0 (.list (D.map deedD)) = true := by
  simp only [PyData.canLay0]
  refine canAll_of fun d hd => ?_
  obtain ⟨e, he, rfl⟩ := List.mem_map.mp hd
  exact can_deed (h e he)
theorem dep_deeds (D : List Deed) : PyData.depth (.list (D.map deedD)) ≤ 2 := by
  simp only [PyData.depth]
  refine Nat.succ_le_succ (depthAll_of fun d hd' => ?_)
  obtain ⟨e, he, rfl⟩ := List.mem_map.mp hd'
  exact Nat.le_refl 1
theorem shaped_found {S : TSt} {gap least : Int} (h : PgOk (rowsS S)) (hd : ∀ d ∈ S.deeds, SgD d) : SeqAt.shaped (foundD S gap least) = true ∧ PyData.eqv (foundD S gap least) (foundD S gap least) = true := by
  have h1 := can_rows h
  have h2 := can_told (begsR (rowsS S) gap least) (rowsS S).length
  have h3 := can_deeds hd
  have d1 : PyData.depth (.list (rowsD (rowsS S))) ≤ 2 := by
    have := depthAll_rows (rowsS S)
    simp only [PyData.depth]
    omega
  have d2 := depth_told (begsR (rowsS S) gap least) (rowsS S).length
  have d3 := dep_deeds S.deeds
  have c : PyData.canLay0 (foundD S gap least) = true := by
    unfold foundD
    generalize PyData.list (rowsD (rowsS S)) = a1 at h1
    generalize toldD (begsR (rowsS S) gap least) (rowsS S).length = a2 at h2
    generalize PyData.list (S.deeds.map deedD) = a3 at h3
    simp only [PyData.canLay0, PyData.canLayAll0, h1, h2, h3, Bool.and_self]
  have d : PyData.depth (foundD S gap least) ≤ 64 := by
    unfold foundD
    generalize PyData.list (rowsD (rowsS S)) = a1 at d1
    generalize toldD (begsR (rowsS S) gap least) (rowsS S).length = a2 at d2
    generalize PyData.list (S.deeds.map deedD) = a3 at d3
    simp only [PyData.depth, PyData.depthAll]
    omega
  refine ⟨?_, SeqAt.eqv_refl _ c⟩
  unfold SeqAt.shaped
  rw [c, decide_eq_true d]
  rfl
theorem shaped_last {S : TSt} (h : PgOk (rowsS S)) (hd : ∀ d ∈ S.deeds, SgD d) : SeqAt.shaped (lastD S) = true ∧ PyData.eqv (lastD S) (lastD S) = true := by
  have h1 := can_rows h
  have h3 := can_deeds hd
  have d1 : PyData.depth (.list (rowsD (rowsS S))) ≤ 2 := by
    have := depthAll_rows (rowsS S)
    simp only [PyData.depth]
    omega
  have d3 := dep_deeds S.deeds
  have c : PyData.canLay0 (lastD S) = true := by
    unfold lastD
    generalize PyData.list (rowsD (rowsS S)) = a1 at h1
    generalize PyData.list (S.deeds.map deedD) = a3 at h3
    simp only [PyData.canLay0, PyData.canLayAll0, h1, h3, Bool.and_self]
  have d : PyData.depth (lastD S) ≤ 64 := by
    unfold lastD
    generalize PyData.list (rowsD (rowsS S)) = a1 at d1
    generalize PyData.list (S.deeds.map deedD) = a3 at d3
    simp only [PyData.depth, PyData.depthAll]
    omega
  refine ⟨?_, SeqAt.eqv_refl _ c⟩
  unfold SeqAt.shaped
  rw [c, decide_eq_true d]
  rfl
end TG

namespace TG
open PySem PySem.Spec PyProof.Rows L2 NdefX GenW Gx Lv Dl
def lcSc : Stmt → Scope
  | .For _ _ [_, _, .For _ _ (.Assign _ (.ListComp _ _ sc _) _ :: _) _ _] _ _ => sc
  | _ => sc00
abbrev scD : Scope := lcSc (stAt (defBody s_law) 3)
theorem key_b3 : ∀ y ∈ cap3, (relS scD (defScope s_law)).names.lookup y = some .cell := by decide +kernel
theorem key_bl : ∀ y ∈ lamD.2.2.names, y.2 = .free → (relS scD (defScope s_law)).names.lookup y.1 = some .cell := by decide +kernel
abbrev nmLaw : List Str := ["_law_script", "_law_box", "_law_page_here", "_law_style_here", "_law_hands", "_law_pair", "_law_turn", "_law_hand", "_law_sign_here", "_law_what", "_law_again", "_law_done_here", "_law_counts", "_law_many", "_law_last", "_law_is_back", "_law_told", "_law_found", "_law_table", "_law_row_here"]
section
variable {P : Program} {w : World} {K : PySem.W.Frag} {mg : Str → Option Value} {base : Heap} {cs : List (Addr × Addr)} {B C CB G p1 p2 : Addr}
/-- the reading of such an element, whatever the cells -/
def tDn (P : Program) (w : World) (K : PySem.W.Frag) (mg : Str → Option Value) (base : Heap) (G p2 : Addr) (cells : List (Str × Addr)) : TE := tCallC cells nmLaw cap3 (spCould P w K mg base G 14) (tCons (tLamC p2 qLw lamD.1 lamD.2.1 lamD.2.2 (cloFrom cells lamD.2.2.names [])) tNil)
def spLaw (K : PySem.W.Frag) (cs : List (Addr × Addr)) (p1 p2 : Addr) : Sp := fun vs H Q _ => ∃ (a : Addr) (ns : List Int), vs = [.ref a] ∧ Tabs cs H ∧ LamX.TabS H p1 qTu ∧ LamX.TabS H p2 qLw ∧ SqL K H a (ns.map V.int) ∧ ns.length ≤ 63 ∧ ∀ H', Q (.bl true) H'
theorem sc_law : FnScope nmLaw ["_law_script"] (defScope s_law) := ⟨rfl, rfl, rfl, by decide +kernel, rfl, by decide +kernel, by decide +kernel⟩
theorem mkT {tb p st dx : Addr} {as : List Addr} {rows : List (List Str)} {gap least : Int} {n : Nat} {H : Hp} {Q : VK} {E : XK} (t : Tabs cs H) (pa : PageAt K H p as rows) (pg : PgOk rows) (sty : StyleAt K H st gap least) (h1 : 1 ≤ n) (h4 : n ≤ 4) (ntb : H tb = none) (ndx : H dx = none)
    (q : ∀ (a : TA) (H' : Hp), a.st = st → Ex cs H H' → (∀ c, ownT tb a c → H c = none ∧ H' c ≠ none) → TabD B H' tb a (startR (pageT rows) n) → Q .non H') : spTInit K cs B [.ref tb, .ref p, .ref st, .int (n : Nat)] (upd (upd H dx (.own tb)) tb (.ins B dx [])) Q E := by
  have s : Same H (upd (upd H dx (.own tb)) tb (.ins B dx [])) := fun c u h => by rw [upd_ne (ne_of_none h ntb), upd_ne (ne_of_none h ndx)]; exact h
  have x := same_ex s t
  have hob : upd (upd H dx (.own tb)) tb (.ins B dx []) tb = some (.ins B dx []) := upd_same
  generalize upd (upd H dx (.own tb)) tb (.ins B dx []) = H1 at s x hob ⊢
  refine ⟨tb, p, st, dx, as, rows, gap, least, n, rfl, x.tab, hob, ⟨x.sqL pa.lst, pa.len, fun i a r e1 e2 => x.sqT (pa.row i a r e1 e2)⟩, pg, ⟨x.sqT sty.tup, sty.g0, sty.g1, sty.l0, sty.l1⟩, h1, h4, fun a H' es kp ow t' old hD => q a H' es ?_ ?_ hD⟩
  · have ne : ∀ {c : Addr} {o : HO}, H c = some o → c ≠ tb := fun h e => by rw [e, ntb] at h; cases h
    refine ⟨fun c o h n => kp c o (s _ _ h) (.inl n) (ne h), t', fun c h => same_old s (old c h), fun c o h n => kp c o (s _ _ h) (.inr n) (ne h)⟩
  · intro c hc
    refine ⟨?_, mob_some hD.mob hc⟩
    rcases ow c hc with e | e
    · rw [e]; exact ntb
    · exact same_old s e
theorem wh_of {xs : List V} {z : Nat} (h : SgOk z ∨ z = 9 ∨ z = 10) {i : Int} (h0 : 0 ≤ i) (h1 : i < 5) (t : Nat → Addr) (H : Hp) (e0 : H (t 0) = some (.tup [.str "press", .str ⟨#[z]⟩])) (e1 : H (t 1) = some (.tup [.str "press", .str ⟨#[z]⟩])) (e2 : H (t 2) = some (.tup [.str "rub"])) (e3 : H (t 3) = some (.tup [.str "left"])) (e4 : H (t 4) = some (.tup [.str "right"])) (ex : xs = [.ref (t 0), .ref (t 1), .ref (t 2), .ref (t 3), .ref (t 4)]) :
    ∃ (wt : Addr) (wh : Wh), atI xs i = some (.ref wt) ∧ H wt = some (.tup wh.vals) ∧ wh.ok := by
  subst ex
  have hm : MarkOk (⟨#[z]⟩ : Str) := by
    rcases h with h | h | h
    · exact .inr (.inr ⟨z, rfl, h⟩)
    · exact .inl (str_of (by rw [h, cl_oneG, cl_tabS]))
    · exact .inr (.inl (str_of (by rw [h, cl_oneG, cl_lineS])))
  have h5 : i = 0 ∨ i = 1 ∨ i = 2 ∨ i = 3 ∨ i = 4 := by omega
  rcases h5 with e | e | e | e | e <;> subst e
  · exact ⟨t 0, .press ⟨#[z]⟩, rfl, e0, hm⟩
  · exact ⟨t 1, .press ⟨#[z]⟩, rfl, e1, hm⟩
  · exact ⟨t 2, .rub, rfl, e2, trivial⟩
  · exact ⟨t 3, .left, rfl, e3, trivial⟩
  · exact ⟨t 4, .right, rfl, e4, trivial⟩
theorem ne_val {v : V} {H : Hp} {Z : VK} (hv : v = .non ∨ ∃ b, v = .bl b) (q : Z (.bl false) H) : rNeD K v v H Z := by
  rcases hv with rfl | ⟨b, rfl⟩
  · exact ⟨.none, .none, .non, .non, rfl, rfl, q⟩
  · refine ⟨.bool b, .bool b, .bl b, .bl b, rfl, rfl, ?_⟩
    have e : PyData.eqv (.bool b) (.bool b) = true := SeqAt.eqv_refl _ rfl
    rw [e]
    exact q
def Post (O : List Nat) (n0 : Nat) (D0 : List Deed) (sg : List Str) (n : Nat) (cn : List Nat) (j : Nat) (S' : TSt) : Prop := GP S' O n0 ∧ Ph D0 S' ∧ S'.signs = sg ∧ S'.spots.length = n ∧ ∀ h, h < n → (S'.undone.getD h []).length = if j = 1 then cn.getD h 0 else 0
theorem Post.same {O : List Nat} {n0 : Nat} {D0 : List Deed} {sg : List Str} {n : Nat} {cn : List Nat} {j : Nat} {S1 S2 : TSt} (p : Post O n0 D0 sg n cn j S1) (q : Post O n0 D0 sg n cn j S2) : S1.deeds = S2.deeds ∧ rowsS S1 = rowsS S2 := by
  obtain ⟨g1, p1, s1, l1, e1⟩ := p
  obtain ⟨g2, p2, s2, l2, e2⟩ := q
  have ed : S1.deeds = S2.deeds := p1.same p2 (by rw [← g1.hn, ← g2.hn, l1, l2]) fun h hh => by
    rw [← g1.hn, l1] at hh
    rw [e1 h hh, e2 h hh]
  refine ⟨ed, ?_⟩
  unfold rowsS
  rw [s1, s2, g1.ord, g2.ord, ed]
theorem Post.sg {O : List Nat} {n0 : Nat} {D0 : List Deed} {sg : List Str} {n : Nat} {cn : List Nat} {j : Nat} {S' : TSt} (p : Post O n0 D0 sg n cn j S') (h : ∀ d ∈ D0, SgD d) : ∀ d ∈ S'.deeds, SgD d := fun d hd => by
  obtain ⟨i, hi, rfl⟩ := List.mem_iff_getElem.mp hd
  have hi0 : i < D0.length := by rw [← p.2.1.len]; exact hi
  have e := p.2.1.dd i hi0
  rw [List.getD_eq_getElem?_getD, List.getElem?_eq_getElem hi] at e
  have e : S'.deeds[i] = _ := e
  have : D0.getD i d0 ∈ D0 := by
    rw [List.getD_eq_getElem?_getD, List.getElem?_eq_getElem hi0]
    exact List.getElem_mem hi0
  rw [e]
  show (D0.getD i d0).2.1 = "" ∨ MarkOk (D0.getD i d0).2.1
  exact h _ this
theorem found_eq {S1 S2 : TSt} {gap least : Int} (e1 : S1.deeds = S2.deeds) (e2 : rowsS S1 = rowsS S2) : foundD S1 gap least = foundD S2 gap least := by
  unfold foundD
  rw [e1, e2]
theorem last_eq {S1 S2 : TSt} (e1 : S1.deeds = S2.deeds) (e2 : rowsS S1 = rowsS S2) : lastD S1 = lastD S2 := by
  unfold lastD
  rw [e1, e2]
theorem GP.rows' {S : TSt} {O : List Nat} {n0 : Nat} (g : GP S O n0) : rowsT (textR S.signs (hereR S)) = rowsS S := g.rows
theorem ToldDs.dz {K : PySem.W.Frag} {Z : Addr → Prop} {H : Hp} {D : Addr} {ts : List Addr} {ds : List Deed} (t : ToldDs H D ts ds) (hz : Z D) : DpZ K Z H (.ref D) (.list (ds.map deedD)) :=
  dpz_deeds t.lst (by rw [List.length_map]; exact t.len) (fun j u v e1 e2 => by
    obtain ⟨d, hd, rfl⟩ := get_map e2
    exact t.at_ j u d e1 hd) hz
theorem ok_law {f cd g1 g2 g3 g4 g5 gO gT gW gD gC gp gb gt : Addr} {fd fd1 fd2 fd3 fd4 fd5 fdO fdT fdW fdD fdC fdp fdb fdt : FuncData} (T : Txt mg) (X : TabC K B) (n1 : ApartT cs p1) (n2 : ApartT cs p2) (np : p1 ≠ p2) (F : Fun K "law" "law" s_law f fd) (hcode : fd.code = .ref cd) (TB : LamX.TabB base mg cd p2) (up : PySem.W.exmOne K (.ref C) (.ref G) = some true) (upB : PySem.W.exmOne K (.ref CB) (.ref G) = some true)
    (G1 : FnOk P w K mg base CX0 1 g1 fd1 ["_law_script"] (spBegun K)) (k1 : PySem.W.keepIn K (.ref g1) = true) (b1 : Binds K fd1 ["_law_script"] []) (m1 : mg "_law_begun" = some (.ref g1))
    (G2 : FnOk P w K mg base CX0 1 g2 fd2 ["_law_box", "_law_many"] spTake) (k2 : PySem.W.keepIn K (.ref g2) = true) (b2 : Binds K fd2 ["_law_box", "_law_many"] []) (m2 : mg "_law_take" = some (.ref g2))
    (G3 : FnOk P w K mg base CX0 5 g3 fd3 ["_law_box", "_law_most"] spPageD) (k3 : PySem.W.keepIn K (.ref g3) = true) (b3 : Binds K fd3 ["_law_box", "_law_most"] []) (m3 : mg "_law_page" = some (.ref g3))
    (G4 : FnOk P w K mg base CX0 2 g4 fd4 ["_law_box"] spStyleD) (k4 : PySem.W.keepIn K (.ref g4) = true) (b4 : Binds K fd4 ["_law_box"] []) (m4 : mg "_law_style" = some (.ref g4))
    (G5 : FnOk P w K mg base CX0 2 g5 fd5 ["_law_box"] spSign) (k5 : PySem.W.keepIn K (.ref g5) = true) (b5 : Binds K fd5 ["_law_box"] []) (m5 : mg "_law_sign" = some (.ref g5))
    (GO : FnOk P w K mg base CX0 2 gO fdO ["_law_box", "_law_counts"] (spOrder K)) (kO : PySem.W.keepIn K (.ref gO) = true) (bO : Binds K fdO ["_law_box", "_law_counts"] []) (mO : mg "_law_order" = some (.ref gO))
    (GT : FnOk P w K mg base CX0 16 gT fdT ["_law_table", "_law_order_here", "_law_is_back"] (spLTurn cs B p1)) (kT : PySem.W.keepIn K (.ref gT) = true) (bT : Binds K fdT ["_law_table", "_law_order_here", "_law_is_back"] []) (mT : mg "_law_turned" = some (.ref gT))
    (GW : FnOk P w K mg base CX0 15 gW fdW ["_law_work"] (spCould P w K mg base G 14)) (kW : PySem.W.keepIn K (.ref gW) = true) (bW : Binds K fdW ["_law_work"] []) (mW : mg "_law_could" = some (.ref gW))
    (GD : FnOk P w K mg base (L2.CX P w) 13 gD fdD ["_law_table", "_law_hand", "_law_what"] (spDone cs B C CB)) (kD : PySem.W.keepIn K (.ref gD) = true) (bD : Binds K fdD ["_law_table", "_law_hand", "_law_what"] []) (mD : mg "_law_done" = some (.ref gD))
    (MC : Mk K B gC) (bC : Binds K fdC ["self", "page", "style", "hands"] []) (mC : mg "Table" = some (.ref B)) (GC : FnOk P w K mg base CX0 13 gC fdC ["self", "page", "style", "hands"] (spTInit K cs B))
    (Mp : Meth K B "page" gp) (bp : Binds K fdp ["self"] []) (Gp : FnOk P w K mg base CX0 3 gp fdp ["self"] (spTPage cs B))
    (Mb : Meth K B "begins" gb) (bb : Binds K fdb ["self"] []) (Gb : FnOk P w K mg base CX0 15 gb fdb ["self"] (spTBegins K cs B))
    (Mt : Meth K B "told" gt) (bt : Binds K fdt ["self"] []) (Gt : FnOk P w K mg base CX0 1 gt fdt ["self"] (spTTold B)) :
    FnOk P w K mg base CX0 17 f fd ["_law_script"] (spLaw K cs p1 p2) := by
  refine fun_okT F hcode sc_law (fun vs H Q E h => ?_) (fun A outer s H vs Q E hr h => ?_)
  · obtain ⟨a, ns, rfl, _⟩ := h
    rfl
  · obtain ⟨sc, ns, rfl, hT, hL1, hL2, hS, hl, k⟩ := h
    have nd := sc_law.nd
    have hu := hr.units
    have r1 : Room 1 _ := hr.mono (by decide)
    have r2 : Room 2 _ := hr.mono (by decide)
    have r3 : Room 3 _ := hr.mono (by decide)
    have r6 : Room 5 _ := hr.mono (by decide)
    have r14 : Room 14 _ := hr.mono (by decide)
    have r15 : Room 15 _ := hr.mono (by decide)
    have r16 : Room 16 _ := hr
    have szl : (9000 : Nat) < sizeLine := by decide
    refine ⟨_, (pss_cons (ps_set (i := 1) nd rfl (.inr rfl) (pe_call G1 r1 (by rfl) m1 k1 b1 .nil pass0 (pa_cons (pv 0) pa_nil)))
      (pss_cons (ps_par3 (i := 2) (j := 3) (l := 4) rfl nd rfl rfl rfl (by decide) (by decide) (by decide) rfl rfl rfl (pa_cons (pe_call G3 r6 (by rfl) m3 k3 b3 .nil pass0 (pa_cons (pv 1) (pa_cons (pe_ix ix_list (pe_lst (pa_cons pe_int (pa_cons pe_int pa_nil))) (pe_call G2 r1 (by rfl) m2 k2 b2 .nil pass0 (pa_cons (pv 1) (pa_cons pe_int pa_nil))) (fun _ _ => rfl)) pa_nil))) (pa_cons (pe_call G4 r2 (by rfl) m4 k4 b4 .nil pass0 (pa_cons (pv 1) pa_nil)) (pa_cons (pe_op op_add pe_int (pe_call G2 r1 (by rfl) m2 k2 b2 .nil pass0 (pa_cons (pv 1) (pa_cons pe_int pa_nil)))) pa_nil))) (by rfl))
      (pss_cons (ps_set (i := 5) nd rfl (.inl rfl) (pe_lst (pa_cons (pe_make MC GC r14 (by rfl) mC bC .nil pass0 (pa_cons (pv 2) (pa_cons (pv 3) (pa_cons (pv 4) pa_nil)))) (pa_cons (pe_make MC GC r14 (by rfl) mC bC .nil pass0 (pa_cons (pv 2) (pa_cons (pv 3) (pa_cons (pv 4) pa_nil)))) pa_nil))))
      (pss_cons (ps_for PassesOwn.never rfl (pi_range1 (by rfl) T.range (pa_cons (pe_op op_add pe_int (pe_call G2 r1 (by rfl) m2 k2 b2 .nil pass0 (pa_cons (pv 1) (pa_cons pe_int pa_nil)))) pa_nil)) (pg_name (i := 6) nd rfl (.inl rfl))
      (pss_cons (ps_asg (pe_tup (pa_cons (pe_call G2 r1 (by rfl) m2 k2 b2 .nil pass0 (pa_cons (pv 1) (pa_cons (pv 4) pa_nil))) (pa_cons (pe_ix ix_list (pe_lst (pa_cons pe_str (pa_cons pe_str (pa_cons (pe_call G5 r2 (by rfl) m5 k5 b5 .nil pass0 (pa_cons (pv 1) pa_nil)) (pa_cons (pe_call G5 r2 (by rfl) m5 k5 b5 .nil pass0 (pa_cons (pv 1) pa_nil)) pa_nil))))) (pe_call G2 r1 (by rfl) m2 k2 b2 .nil pass0 (pa_cons (pv 1) (pa_cons pe_int pa_nil))) (fun _ _ => rfl)) pa_nil))) (pg_tup rfl (pgs_cons (pg_name (i := 7) nd rfl (.inr rfl)) (pgs_cons (pg_name (i := 8) nd rfl (.inl rfl)) pgs_nil))))
      (pss_cons (ps_set (i := 9) nd rfl (.inr rfl) (pe_ix ix_list (pe_lst (pa_cons (pe_tup (pa_cons pe_str (pa_cons (pv 8) pa_nil))) (pa_cons (pe_tup (pa_cons pe_str (pa_cons (pv 8) pa_nil))) (pa_cons (pe_tup (pa_cons pe_str pa_nil)) (pa_cons (pe_tup (pa_cons pe_str pa_nil)) (pa_cons (pe_tup (pa_cons pe_str pa_nil)) pa_nil)))))) (pe_call G2 r1 (by rfl) m2 k2 b2 .nil pass0 (pa_cons (pv 1) (pa_cons pe_int pa_nil))) (fun _ _ => rfl)))
      (pss_one (ps_for PassesOwn.never rfl (pi_range1 (by rfl) T.range (pa_cons (pe_op op_add pe_int (pe_op op_mul (pe_call G2 r1 (by rfl) m2 k2 b2 .nil pass0 (pa_cons (pv 1) (pa_cons pe_int pa_nil))) (pe_callTy call_int1 (by rfl) T.int (by decide +kernel) (pa_cons (pe_cmpR op_in_seq (pe_ix ix_tup (pv 9) pe_int (fun _ _ => rfl)) (pe_tup (pa_cons pe_str (pa_cons pe_str pa_nil))) (by with_unfolding_all rfl)) pa_nil)))) pa_nil)) (pg_name (i := 10) nd rfl (.inl rfl))
      (pss_cons (ps_setLcC (i := 11) (own := [("_law_table", 18)]) (g := gName 18) (tt := tYes) rfl nd rfl rfl (sw_true rfl rfl rfl (by decide +kernel)) (pi_list (pv 5)) (blkOk_by (own := [("_law_table", 18)]) (N := nmLaw) (sc := defScope s_law) (by decide +kernel)) (fun _ _ _ _ _ => pg_name (i := 18) nd rfl (Or.inr rfl)) (fun _ _ _ _ _ => pts_nil) (fun _ _ _ cl _ hcl => pe_any (t := tDn P w K mg base G p2) cl (pe_callH (names := cap3) GW r15 (by rfl) mW kW bW (fun y _ c hy => hcl y c hy) key_b3 (pa_cons (pe_lamC TB rfl rfl fun y hy e => .inl (key_bl y hy e)) pa_nil))) (fun _ _ _ => rfl))
      (pss_one (ps_if (pt_cmpR (op_neD hu) (pe_ix ix_list (pv 11) pe_int (fun _ _ => rfl)) (pe_ix ix_list (pv 11) pe_int (fun _ _ => rfl)) (nomark _)) (pss_one (ps_ret pe_bl)) pss_nil))))))))
      (pss_cons (ps_set (i := 12) nd rfl (.inr rfl) (pe_lst pa_nil))
      (pss_cons (ps_for PassesOwn.never rfl (pi_range1 (by rfl) T.range (pa_cons (pv 4) pa_nil)) (pg_name (i := 7) nd rfl (.inr rfl))
      (pss_cons (ps_set (i := 13) nd rfl (.inl rfl) (pe_callB call_len_seq (by rfl) T.len PySem.boot_len (pa_cons (pe_lc (own := [("_law_row_here", 19)]) (g := gName 19) rfl nd (pi_list (pe_meth0 (pe_ix ix_list (pv 5) pe_int (fun _ _ => rfl)) X.cls Mt Gt r1 bt .nil pass0)) (blkOk_by (own := [("_law_row_here", 19)]) (N := nmLaw) (sc := defScope s_law) (by decide +kernel)) (fun _ _ _ _ _ => pg_name (i := 19) nd rfl (Or.inl rfl)) (fun _ _ _ _ _ => pts_one (pt_cmpR (r := rEq) op_eq (pe_ix (r := rIxT K) ix_tup (pv 19) pe_int (fun _ _ => rfl)) (pv 7) (nomark _))) (fun _ _ _ _ _ => pv 19)) pa_nil)))
      (pss_one (ps_expr (pe_bm PySem.F.plainAttrs_list PySem.F.slot_list_append PySem.F.type_list_append mt_append (pv 12) (pa_cons (pe_call G2 r1 (by rfl) m2 k2 b2 .nil pass0 (pa_cons (pv 1) (pa_cons (pe_op op_add (pv 13) pe_int) pa_nil))) pa_nil))))))
      (pss_cons (ps_set (i := 14) nd rfl (.inl rfl) (pe_lst (pa_cons (pe_meth0 (pe_ix ix_list (pv 5) pe_int (fun _ _ => rfl)) X.cls Mp Gp r3 bp .nil pass0) (pa_cons (pe_meth0 (pe_ix ix_list (pv 5) pe_int (fun _ _ => rfl)) X.cls Mt Gt r1 bt .nil pass0) pa_nil))))
      (pss_cons (ps_for PassesOwn.never rfl (pi_list (pe_lst (pa_cons pe_bl (pa_cons pe_bl pa_nil)))) (pg_name (i := 15) nd rfl (.inr rfl))
      (pss_cons (ps_setLc (i := 16) (own := [("_law_table", 18)]) (g := gName 18) (tt := tYes) rfl nd rfl rfl (sw_true rfl rfl rfl (by decide +kernel)) (pi_list (pv 5)) (blkOk_by (own := [("_law_table", 18)]) (N := nmLaw) (sc := defScope s_law) (by decide +kernel)) (fun _ _ _ _ _ => pg_name (i := 18) nd rfl (Or.inl rfl)) (fun _ _ _ _ _ => pts_nil) (fun _ _ _ _ _ => (pe_call GT r16 (by rfl) mT kT bT .nil pass0 (pa_cons (pv 18) (pa_cons (pe_call GO r2 (by rfl) mO kO bO .nil pass0 (pa_cons (pv 1) (pa_cons (pv 12) pa_nil))) (pa_cons (pv 15) pa_nil))))))
      (pss_cons (ps_if (pt_cmpR op_in_seq pe_bl (pv 16) (by with_unfolding_all rfl)) (pss_one (ps_ret pe_bl)) pss_nil)
      (pss_cons (ps_if (pt_cmpR op_in_seq pe_non (pv 16) (by with_unfolding_all rfl)) (pss_one (ps_ret pe_bl)) pss_nil)
      (pss_cons (ps_setLc (i := 17) (own := [("_law_table", 18)]) (g := gName 18) (tt := tYes) rfl nd rfl rfl (sw_true rfl rfl rfl (by decide +kernel)) (pi_list (pv 5)) (blkOk_by (own := [("_law_table", 18)]) (N := nmLaw) (sc := defScope s_law) (by decide +kernel)) (fun _ _ _ _ _ => pg_name (i := 18) nd rfl (Or.inl rfl)) (fun _ _ _ _ _ => pts_nil) (fun _ _ _ _ _ => (pe_lst (pa_cons (pe_meth0 (pv 18) X.cls Mp Gp r3 bp .nil pass0) (pa_cons (pe_meth0 (pv 18) X.cls Mb Gb r15 bb .nil pass0) (pa_cons (pe_meth0 (pv 18) X.cls Mt Gt r1 bt .nil pass0) pa_nil))))))
      (pss_one (ps_if (pt_cmpR (op_neD hu) (pe_ix ix_list (pv 17) pe_int (fun _ _ => rfl)) (pe_ix ix_list (pv 17) pe_int (fun _ _ => rfl)) (nomark _)) (pss_one (ps_ret pe_bl)) pss_nil)))))))
      (pss_one (ps_ret (pe_cmpR (op_eqD hu) (pe_lst (pa_cons (pe_meth0 (pe_ix ix_list (pv 5) pe_int (fun _ _ => rfl)) X.cls Mp Gp r3 bp .nil pass0) (pa_cons (pe_meth0 (pe_ix ix_list (pv 5) pe_int (fun _ _ => rfl)) X.cls Mt Gt r1 bt .nil pass0) pa_nil))) (pv 14) (nomark _)))))))))))), ?_⟩
    refine ⟨_, rfl, sc, ns, rfl, hS, hl, fun b l H1 hB1 x1 nb nl => ?_⟩
    have mF : ∀ {H : Hp}, Mob H (fun _ => False) := fun c z => z.elim
    have e1 := same_ex x1 hT
    have t1 := e1.tab
    have L11 := tabS_kn (kn_exA (cs := cs) e1) mF n1 hL1
    have L21 := tabS_kn (kn_exA (cs := cs) e1) mF n2 hL2
    clear hS hl nb nl hL1 hL2 hT x1 e1
    have kbn : ∀ {H H' : Hp}, KB b l H H' → KN cs (fun c => c = b ∨ c = l) H H' := fun x c o h _ n => x c o h (fun z => n (.inl z)) fun z => n (.inr z)
    -- page, style, hands
    refine ⟨_, rfl, by show 2 ≤ sizeLine; decide, fun p0 np0 => ⟨_, rfl, b, l, 2, rfl, box_new hB1 np0, by decide, by decide, fun z H2 z0 z1 hB2 x2 => ?_⟩⟩
    obtain ⟨nb0, nl0⟩ := new_ne hB1 np0
    have hp0 := x2 p0 _ upd_same nb0 nl0
    have y1 := Ex.laid (o := .lst [V.int 3, V.int 8]) t1 np0
    have t2 := tabs_kb y1.tab (box_new hB1 np0) x2
    have L12 := tabS_kn (kbn x2) (box_mob' (box_new hB1 np0)) n1 (tabS_kn (kn_exA y1) mF n1 L11)
    have L22 := tabS_kn (kbn x2) (box_mob' (box_new hB1 np0)) n2 (tabS_kn (kn_exA y1) mF n2 L21)
    obtain ⟨m, hm, em⟩ := pick (xs := [(3 : Int), 8]) (i := z) z0 z1
    have hm2 : 1 ≤ m ∧ m ≤ 30 := by
      simp only [List.mem_cons, List.not_mem_nil, or_false] at hm
      omega
    refine ⟨p0, _, _, .int m, rfl, rfl, SqL.of hp0, atI_map (f := V.int) em, b, l, m, rfl, hB2, hm2.1, hm2.2, fun pg as rows H3 hB3 x3 npg pb pl hp hal hrow hO => ⟨_, rfl, b, l, rfl, hB3, fun st gap least H4 hB4 x4 nst hst g0 g1 l0 l1 => ⟨_, rfl, b, l, 3, rfl, hB4, by decide, by decide, fun h3 H5 h30 h31 hB5 x5 => ⟨2, h3, rfl, rfl, ?_⟩⟩⟩⟩
    obtain ⟨n, hn, hn1, hn4⟩ : ∃ n : Nat, (2 : Int) + h3 = ((n : Nat) : Int) ∧ 2 ≤ n ∧ n ≤ 4 := ⟨(2 + h3).toNat, by omega, by omega, by omega⟩
    dsimp only
    rw [hn]
    have t5 := tabs_kb (tabs_kb (tabs_kb t2 hB2 x3) hB3 x4) hB4 x5
    have L15 := tabS_kn (kbn x5) (box_mob' hB4) n1 (tabS_kn (kbn x4) (box_mob' hB3) n1 (tabS_kn (kbn x3) (box_mob' hB2) n1 L12))
    have L25 := tabS_kn (kbn x5) (box_mob' hB4) n2 (tabS_kn (kbn x4) (box_mob' hB3) n2 (tabS_kn (kbn x3) (box_mob' hB2) n2 L22))
    have hp5 := x5 pg _ (x4 pg _ hp pb pl) pb pl
    have tk : ∀ {H H' : Hp} {q : Addr} {xs : List V}, BoxAt H b l → KB b l H H' → H q = some (.tup xs) → H' q = some (.tup xs) := fun hB x h => tup_km (kb_km' x) (box_mob' hB) h
    have P5 : PageAt K H5 pg as rows := ⟨SqL.of hp5, hal, fun i q r e1 e2 => SqT.of (tk hB4 x5 (tk hB3 x4 (hrow i q r e1 e2)))⟩
    have S5 : StyleAt K H5 st gap least := ⟨SqT.of (tk hB4 x5 hst), g0, g1, l0, l1⟩
    clear x2 x3 x4 x5 hB1 hB2 hB3 hB4 t1 t2 L11 L21 L12 L22 hp hrow hst nst pb pl hp5 hp0 np0 nb0 nl0 y1 hm em hm2 z0 z1 npg hal h30 h31 hn
    refine ⟨_, _, _, rfl, ?_⟩
    -- two tables
    refine ⟨_, rfl, _, rfl, _, rfl, fun tb0 dx0 ntb0 ndx0 _ => ?_⟩
    refine mkT t5 P5 hO S5 (by omega) hn4 ntb0 ndx0 fun a0 H6 es0 x6 ow0 td0 => ⟨rfl, ?_⟩
    refine ⟨_, rfl, _, rfl, _, rfl, fun tb1 dx1 ntb1 ndx1 _ => ?_⟩
    have P6 : PageAt K H6 pg as rows := ⟨x6.sqL P5.lst, P5.len, fun i q r e1 e2 => x6.sqT (P5.row i q r e1 e2)⟩
    have S6 : StyleAt K H6 st gap least := ⟨x6.sqT S5.tup, g0, g1, l0, l1⟩
    refine mkT x6.tab P6 hO S6 (by omega) hn4 ntb1 ndx1 fun a1 H7 es1 x7 ow1 td1 => ⟨rfl, by show 2 ≤ sizeLine; decide, fun pr npr => ?_⟩
    obtain ⟨g0S, on0, _⟩ := start_gp (n := n) (page_tx hO) (Nat.le_trans (pageT_len hO) (by decide)) hn4 (by rw [rowsT_page hO]; exact hO)
    have td0' := td0.gw x7.ext
    have L17 := tabS_kn (kn_exA (cs := cs) (x6.trans x7)) mF n1 L15
    have L27 := tabS_kn (kn_exA (cs := cs) (x6.trans x7)) mF n2 L25
    have o : SitP K cs B p1 p2 b l st gap least (fset (fun _ => tb0) 1 tb1) (fun _ => False) (fset (fun _ => a0) 1 a1) (fun _ => startR (pageT rows) n) H7 := by
      have S7 : StyleAt K H7 st gap least := ⟨x7.sqT S6.tup, g0, g1, l0, l1⟩
      have hB7 : BoxAt H7 b l := box_ext hB5 (x6.trans x7).ext
      refine ⟨hB7, x7.tab, L17, L27, S7, fun i hi => ?_, fun i hi => ?_, fun i hi c hc => ?_, fun i j hi hj e c hc hc' => ?_, fun c z => z.elim, fun c z => z.elim, fun c z => z.elim⟩
      · have h2 : i = 0 ∨ i = 1 := by omega
        rcases h2 with e | e <;> subst e
        · exact td0'
        · exact td1
      · have h2 : i = 0 ∨ i = 1 := by omega
        rcases h2 with e | e <;> subst e
        · exact es0
        · exact es1
      · have h2 : i = 0 ∨ i = 1 := by omega
        rcases h2 with e | e <;> subst e
        · exact box_ne' hB5 (ow0 c hc).1
        · exact box_ne' hB5 (x6.old _ (ow1 c hc).1)
      · have h2 : (i = 0 ∧ j = 1) ∨ (i = 1 ∧ j = 0) := by omega
        rcases h2 with ⟨e1, e2⟩ | ⟨e1, e2⟩ <;> subst e1 <;> subst e2
        · exact (ow0 c hc).2 (ow1 c hc').1
        · exact (ow0 c hc').2 (ow1 c hc).1
    clear P5 S5 P6 S6 td0 td1 td0' ow0 ow1 es0 es1 L15 L25 L17 L27 x6 x7 t5 hB5 ntb0 ndx0 ntb1 ndx1
    have hpr : upd H7 pr (.lst [V.ref tb0, V.ref tb1]) pr = some (.lst [V.ref tb0, V.ref tb1]) := upd_same
    have o := o.add n1 n2 (Ex.laid (o := .lst [V.ref tb0, V.ref tb1]) o.tab npr) (Z' := fun c => c = pr) fun c e => .inr ⟨e ▸ npr, [V.ref tb0, V.ref tb1], by rw [e]; exact hpr⟩
    generalize upd H7 pr (.lst [V.ref tb0, V.ref tb1]) = H8 at o hpr ⊢
    clear npr
    have sn : (startR (pageT rows) n).spots.length = n := List.length_replicate
    have sl : (startR (pageT rows) n).signs.length ≤ 2200 := by
      show (sgS (pageT rows) ++ [("" : Str)]).length ≤ 2200
      rw [List.length_append, sgS_len]
      show (pageT rows).length + 1 ≤ 2200
      have := pageT_len hO
      omega
    have sd : (startR (pageT rows) n).deeds.length = 0 := rfl
    have g0E : ∃ O' n0', GP (startR (pageT rows) n) O' n0' := ⟨_, _, g0S⟩
    clear g0S
    generalize startR (pageT rows) n = S0 at o g0E on0 sn sl sd
    have eta : [V.ref tb0, V.ref tb1] = [V.ref (fset (fun _ => tb0) 1 tb1 0), V.ref (fset (fun _ => tb0) 1 tb1 1)] := rfl
    rw [eta] at hpr
    generalize fset (fun _ => tb0) 1 tb1 = ta at o hpr
    generalize fset (fun _ => a0) 1 a1 = aa0 at o
    clear eta
    -- the deeds
    refine ⟨_, rfl, b, l, 30, rfl, o.box, by decide, by decide, fun tn H9 t0 t1 hB9 x9 => ⟨1, tn, rfl, rfl, _, rfl, by omega, by omega, ?_⟩⟩
    have o := (o.draw n1 n2 x9 hB9).1
    have hpr := x9 _ _ hpr (o.zb pr rfl).1 (o.zb pr rfl).2
    clear x9 hB9
    obtain ⟨tn, rfl⟩ := Int.eq_ofNat_of_zero_le t0
    have e30 : ((1 : Int) + (tn : Nat)).toNat = 1 + tn := by omega
    refine for_range (n := ((1 : Int) + (tn : Nat)).toNat) (fun i σ H' => ∃ (c6 c7 c8 c9 c10 c11 : Option V) (aa : Nat → TA) (S : TSt), σ = [some (.ref sc), some (.ref b), some (.ref pg), some (.ref st), some (.int (n : Nat)), some (.ref pr), c6, c7, c8, c9, c10, c11, none, none, none, none, none, none, none, none] ∧ SitP K cs B p1 p2 b l st gap least ta (fun c => c = pr) aa (fun _ => S) H' ∧ H' pr = some (.lst [V.ref (ta 0), V.ref (ta 1)]) ∧ (∃ O n0, GP S O n0) ∧ AllOn S ∧ S.spots.length = n ∧ S.signs.length ≤ 2200 + 6 * i ∧ S.deeds.length ≤ 6 * i)
      ⟨none, none, none, none, none, none, aa0, S0, rfl, o, hpr, g0E, on0, sn, sl, Nat.le_of_eq sd⟩ ?_ ?_
    · clear o hpr g0E on0 sn sl sd
      rintro i σ H10 hi ⟨c6, c7, c8, c9, c10, c11, aa, S, rfl, o, hpr, gE, on, sn, sl, sd⟩
      rw [e30] at hi
      -- a hand, a sign
      refine ⟨_, rfl, _, rfl, b, l, (n : Nat), rfl, o.box, by omega, by omega, fun hd H11 hd0 hd1 hB11 x11 => ?_⟩
      have k11 := (o.draw n1 n2 x11 hB11).2
      have o := (o.draw n1 n2 x11 hB11).1
      have hpr := k11.ls _ _ rfl hpr
      obtain ⟨h, rfl⟩ := Int.eq_ofNat_of_zero_le hd0
      have hh : h < S.spots.length := by omega
      refine ⟨_, rfl, b, l, rfl, o.box, fun q1 H12 hq1 hB12 x12 => ?_⟩
      have k12 := (o.draw n1 n2 x12 hB12).2
      have o := (o.draw n1 n2 x12 hB12).1
      have hpr := k12.ls _ _ rfl hpr
      refine ⟨_, rfl, b, l, rfl, o.box, fun q2 H13 hq2 hB13 x13 => ?_⟩
      have k13 := (o.draw n1 n2 x13 hB13).2
      have o := (o.draw n1 n2 x13 hB13).1
      have hpr := k13.ls _ _ rfl hpr
      refine ⟨by show 4 ≤ sizeLine; decide, fun l4 nl4 => ?_⟩
      have x14 := Ex.laid (o := .lst [V.str "\n", V.str "\t", V.str ⟨#[q1]⟩, V.str ⟨#[q2]⟩]) o.tab nl4
      have o := o.ex n1 n2 x14
      have hpr := x14.lst hpr
      have hl4 := upd_same (H := H13) (a := l4) (o := .lst [V.str "\n", V.str "\t", V.str ⟨#[q1]⟩, V.str ⟨#[q2]⟩])
      have n4 := box_ne' hB13 nl4
      generalize upd H13 l4 (.lst [V.str "\n", V.str "\t", V.str ⟨#[q1]⟩, V.str ⟨#[q2]⟩]) = H14 at o hpr hl4 ⊢
      refine ⟨_, rfl, b, l, 4, rfl, o.box, by decide, by decide, fun z4 H15 z40 z41 hB15 x15 => ?_⟩
      have k15 := (o.draw n1 n2 x15 hB15).2
      have o := (o.draw n1 n2 x15 hB15).1
      have hpr := k15.ls _ _ rfl hpr
      have hl4 := x15 _ _ hl4 n4.1 n4.2
      obtain ⟨z, hz, ez⟩ : ∃ z : Nat, (SgOk z ∨ z = 9 ∨ z = 10) ∧ atI ([V.str "\n", V.str "\t", V.str ⟨#[q1]⟩, V.str ⟨#[q2]⟩] : List V) z4 = some (.str ⟨#[z]⟩) := by
        have h5 : z4 = 0 ∨ z4 = 1 ∨ z4 = 2 ∨ z4 = 3 := by omega
        rcases h5 with e | e | e | e <;> subst e
        · exact ⟨10, .inr (.inr rfl), rfl⟩
        · exact ⟨9, .inr (.inl rfl), rfl⟩
        · exact ⟨q1, .inl hq1, rfl⟩
        · exact ⟨q2, .inl hq2, rfl⟩
      refine ⟨l4, _, _, .str ⟨#[z]⟩, rfl, rfl, SqL.of hl4, ez, by show 2 ≤ sizeLine; decide, fun tt ntt => ?_⟩
      have x16 := Ex.laid (o := .tup [V.int (h : Nat), V.str ⟨#[z]⟩]) o.tab ntt
      have o := o.ex n1 n2 x16
      have hpr := x16.lst hpr
      have htt := upd_same (H := H15) (a := tt) (o := .tup [V.int (h : Nat), V.str ⟨#[z]⟩])
      generalize upd H15 tt (.tup [V.int (h : Nat), V.str ⟨#[z]⟩]) = H16 at o hpr htt ⊢
      refine ⟨tt, _, rfl, SqT.of htt, rfl, _, _, rfl, _, _, rfl, rfl, ?_⟩
      clear htt x16 ntt x15 x14 x13 x12 x11 hB11 hB12 hB13 hB15 hl4 n4 nl4 ez z40 z41 hq1 hq2 k11 k12 k13 k15 hd0 hd1
      -- what it does
      refine ⟨_, rfl, by show 2 ≤ sizeLine; decide, fun u0 nu0 => ⟨_, rfl, by show 2 ≤ sizeLine; decide, fun u1 nu1 => ⟨by show 1 ≤ sizeLine; decide, fun u2 nu2 => ⟨by show 1 ≤ sizeLine; decide, fun u3 nu3 => ⟨by show 1 ≤ sizeLine; decide, fun u4 nu4 => ⟨by show 5 ≤ sizeLine; decide, fun l5 nl5 => ?_⟩⟩⟩⟩⟩⟩
      have s0 := same_new (o := HO.tup [V.str "press", V.str ⟨#[z]⟩]) nu0
      have s1 := same_new (o := HO.tup [V.str "press", V.str ⟨#[z]⟩]) nu1
      have s2 := same_new (o := HO.tup [V.str "rub"]) nu2
      have s3 := same_new (o := HO.tup [V.str "left"]) nu3
      have s4 := same_new (o := HO.tup [V.str "right"]) nu4
      have s5 := same_new (o := HO.lst [V.ref u0, V.ref u1, V.ref u2, V.ref u3, V.ref u4]) nl5
      have sS := same_trans (same_trans (same_trans (same_trans (same_trans s0 s1) s2) s3) s4) s5
      have h0' := s5 _ _ (s4 _ _ (s3 _ _ (s2 _ _ (s1 _ _ (upd_same (H := H16) (a := u0) (o := HO.tup [V.str "press", V.str ⟨#[z]⟩]))))))
      have h1' := s5 _ _ (s4 _ _ (s3 _ _ (s2 _ _ (upd_same (H := upd H16 u0 (.tup [V.str "press", V.str ⟨#[z]⟩])) (a := u1) (o := HO.tup [V.str "press", V.str ⟨#[z]⟩])))))
      have h2' := s5 _ _ (s4 _ _ (s3 _ _ (upd_same (H := upd (upd H16 u0 (.tup [V.str "press", V.str ⟨#[z]⟩])) u1 (.tup [V.str "press", V.str ⟨#[z]⟩])) (a := u2) (o := HO.tup [V.str "rub"]))))
      have h3' := s5 _ _ (s4 _ _ (upd_same (H := upd (upd (upd H16 u0 (.tup [V.str "press", V.str ⟨#[z]⟩])) u1 (.tup [V.str "press", V.str ⟨#[z]⟩])) u2 (.tup [V.str "rub"])) (a := u3) (o := HO.tup [V.str "left"])))
      have h4' := s5 _ _ (upd_same (H := upd (upd (upd (upd H16 u0 (.tup [V.str "press", V.str ⟨#[z]⟩])) u1 (.tup [V.str "press", V.str ⟨#[z]⟩])) u2 (.tup [V.str "rub"])) u3 (.tup [V.str "left"])) (a := u4) (o := HO.tup [V.str "right"]))
      have h5' := upd_same (H := upd (upd (upd (upd (upd H16 u0 (.tup [V.str "press", V.str ⟨#[z]⟩])) u1 (.tup [V.str "press", V.str ⟨#[z]⟩])) u2 (.tup [V.str "rub"])) u3 (.tup [V.str "left"])) u4 (.tup [V.str "right"])) (a := l5) (o := HO.lst [V.ref u0, V.ref u1, V.ref u2, V.ref u3, V.ref u4])
      have nl5' : H16 l5 = none := same_old (same_trans (same_trans (same_trans (same_trans s0 s1) s2) s3) s4) nl5
      generalize upd (upd (upd (upd (upd (upd H16 u0 (.tup [V.str "press", V.str ⟨#[z]⟩])) u1 (.tup [V.str "press", V.str ⟨#[z]⟩])) u2 (.tup [V.str "rub"])) u3 (.tup [V.str "left"])) u4 (.tup [V.str "right"])) l5 (.lst [V.ref u0, V.ref u1, V.ref u2, V.ref u3, V.ref u4]) = H17 at sS h0' h1' h2' h3' h4' h5' ⊢
      clear s0 s1 s2 s3 s4 s5 nu0 nu1 nu2 nu3 nu4
      have x17 := same_ex sS o.tab
      have nn5 := box_ne' o.box nl5'
      have o := o.ex n1 n2 x17
      have hpr := x17.lst hpr
      refine ⟨_, rfl, b, l, 5, rfl, o.box, by decide, by decide, fun z5 H18 z50 z51 hB18 x18 => ?_⟩
      have k18 := (o.draw n1 n2 x18 hB18).2
      have o := (o.draw n1 n2 x18 hB18).1
      have hpr := k18.ls _ _ rfl hpr
      obtain ⟨wt, wh, ewt, hwt, okw⟩ := wh_of hz z50 z51 (fun i => match i with | 0 => u0 | 1 => u1 | 2 => u2 | 3 => u3 | _ => u4) H18 (k18.tp _ _ h0') (k18.tp _ _ h1') (k18.tp _ _ h2') (k18.tp _ _ h3') (k18.tp _ _ h4') rfl
      refine ⟨l5, _, _, .ref wt, rfl, rfl, SqL.of (x18 _ _ h5' nn5.1 nn5.2), ewt, ?_⟩
      clear h0' h1' h2' h3' h4' h5' x18 hB18 k18 sS nl5 nl5' nn5 z50 z51 ewt x17
      -- how often
      refine ⟨_, rfl, b, l, 6, rfl, o.box, by decide, by decide, fun t6 H19 t60 t61 hB19 x19 => ?_⟩
      have k19 := (o.draw n1 n2 x19 hB19).2
      have o := (o.draw n1 n2 x19 hB19).1
      have hpr := k19.ls _ _ rfl hpr
      have hwt := k19.tp _ _ hwt
      obtain ⟨w0, hw0⟩ : ∃ w0 : Str, wh.vals[0]? = some (.str w0) := by cases wh <;> exact ⟨_, rfl⟩
      refine ⟨_, rfl, wt, _, 0, .str w0, rfl, rfl, SqT.of hwt, atI_nat (j := 0) hw0, by show 2 ≤ sizeLine; decide, fun qq nqq => ?_⟩
      have x20 := Ex.laid (o := .tup [V.str "left", V.str "right"]) o.tab nqq
      have o := o.ex n1 n2 x20
      have hpr := x20.lst hpr
      have hwt := x20.tup hwt
      have hqq := upd_same (H := H19) (a := qq) (o := .tup [V.str "left", V.str "right"])
      generalize upd H19 qq (.tup [V.str "left", V.str "right"]) = H20 at o hpr hwt hqq ⊢
      refine ⟨qq, _, rfl, .inr (SqT.of hqq), rfl, rfl, .inr ⟨_, rfl, ?_⟩⟩
      generalize (if false = true then !inV (V.str w0) [V.str "left", V.str "right"] else inV (V.str w0) [V.str "left", V.str "right"]) = bi
      obtain ⟨m6, em6, hm6⟩ : ∃ m6 : Nat, (1 : Int) + t6 * (if bi = true then 1 else 0) = ((m6 : Nat) : Int) ∧ m6 ≤ 6 := by
        cases bi
        · exact ⟨1, by simp, by decide⟩
        · exact ⟨(1 + t6).toNat, by simp; omega, by omega⟩
      refine ⟨_, _, rfl, rfl, ?_, 1, _, rfl, rfl, ?_⟩
      · exact .inl ⟨by omega, by omega⟩
      dsimp only
      rw [em6]
      clear hqq x20 nqq x19 hB19 k19 t60 t61 em6 hw0
      refine ⟨_, rfl, by omega, by omega, ?_⟩
      have e6 : (((m6 : Nat) : Int)).toNat = m6 := rfl
      refine for_range (D := { nx := _, rt := Q, bk := fun _ _ => True, ct := fun _ _ => True }) (n := (((m6 : Nat) : Int)).toNat) (fun j σ H' => ∃ (c10 c11 : Option V) (aa : Nat → TA) (S : TSt), σ = [some (.ref sc), some (.ref b), some (.ref pg), some (.ref st), some (.int (n : Nat)), some (.ref pr), some (.int (0 + ((i : Nat) : Int))), some (.int (h : Nat)), some (.str ⟨#[z]⟩), some (.ref wt), c10, c11, none, none, none, none, none, none, none, none] ∧ SitP K cs B p1 p2 b l st gap least ta (fun c => c = pr) aa (fun _ => S) H' ∧ H' pr = some (.lst [V.ref (ta 0), V.ref (ta 1)]) ∧ H' wt = some (.tup wh.vals) ∧ (∃ O n0, GP S O n0) ∧ AllOn S ∧ S.spots.length = n ∧ S.signs.length ≤ 2200 + 6 * i + j ∧ S.deeds.length ≤ 6 * i + j)
        ⟨c10, c11, aa, S, rfl, o, hpr, hwt, gE, on, sn, sl, sd⟩ ?_ ?_
      · have hhn : h < n := by omega
        clear o hpr hwt gE on sn sl sd hh
        rintro j σ H21 hj ⟨c10, c11, aa, S, rfl, o, hpr, hwt, ⟨O, n0, g⟩, on, sn, sl, sd⟩
        rw [e6] at hj
        have hh : h < S.spots.length := by omega
        have l1' : S.signs.length ≤ 3900 := by omega
        have l2' : S.deeds.length ≤ 900 := by omega
        have pre := g.pre (wh := wh) hh okw l1' l2'
        have gt := g.tok
        refine ⟨_, rfl, pr, rfl, ⟨_, SqL.of hpr⟩, fun D nD => ?_⟩
        have hD0 : upd H21 D (.lst []) D = some (.lst (List.replicate 0 (if (step4 S h wh).isSome = true then V.bl true else V.non))) := upd_same
        have xD := Ex.laid (o := .lst []) o.tab nD
        refine lc_list (te := fun σ H Q => ∀ cells, tDn P w K mg base G p2 cells σ H Q) (tt := tYes) (g := gName 18) (vs := [18]) (xs := [V.ref (ta 0), V.ref (ta 1)]) (fun q H' => ∃ aa, SitP K cs B p1 p2 b l st gap least ta (fun c => c = pr ∨ c = D) aa (fun i => if i < q then (step4 S h wh).getD S else S) H' ∧ H' pr = some (.lst [V.ref (ta 0), V.ref (ta 1)]) ∧ H' wt = some (.tup wh.vals) ∧ H' D = some (.lst (List.replicate q (if (step4 S h wh).isSome = true then V.bl true else V.non))))
          ⟨aa, (o.add n1 n2 xD (fun c e => e.imp id fun (e : c = D) => ⟨e ▸ nD, [], by rw [e]; exact upd_same⟩)).cong (fun i _ => (if_neg (Nat.not_lt_zero i)).symm), xD.lst hpr, xD.tup hwt, hD0⟩ (fun q H' _ ⟨_, _, h1, _⟩ => SqL.of h1) ?_ ?_
        · clear o hpr hwt hD0 xD
          rintro q v H22 hv ⟨aa, o, hpr, hwt, hD⟩
          have hq : q < 2 := (List.getElem?_eq_some_iff.mp hv).1
          have ev : v = .ref (ta q) := by
            match q, hq, hv with
            | 0, _, hv => cases hv; rfl
            | 1, _, hv => cases hv; rfl
          subst ev
          refine ⟨rfl, fun cells => ?_⟩
          refine ⟨o.l2, fun f1 cc H23 e1 e2 t1 nf hf hcc cl Tc un => ?_⟩
          have lm : Lm p2 H22 H23 := ⟨e1, e2⟩
          have o1 := o.lam2 n2 np lm t1
          have hf' : HfL f1 _ _ H23 := ⟨hf, hcc⟩
          have ext := lm.ext o.l2
          have hpr := ext _ _ hpr fun ps z => nomatch z
          have hwt := ext _ _ hwt fun ps z => nomatch z
          have hD := ext _ _ hD fun ps z => nomatch z
          have td := o1.tt q hq
          rw [if_neg (Nat.lt_irrefl q)] at td
          refine couldD (it := 18) (ih := 7) (iw := 9) Tc un rfl rfl rfl rfl rfl rfl rfl (hf'.add un) (lok_d GD kD bD mD) up upB o1.tab td gt hh hwt pre (fun S' e a' H24 es kn ow t old td' hu _ => ?_) (fun e H24 x hu _ => ?_)
          · rw [del_add hu]
            have mv : Mv cs p1 (ta q) (aa q) H23 a' H24 := Mv.start.went kn ow old es
            have L1 := tabS_kn kn td.mob n1 o1.l1
            obtain ⟨o2, k2⟩ := o1.table n2 np hq mv t L1 td'
            have hD2 := k2.ls _ _ (.inr rfl) hD
            refine ⟨_, hD2, by rw [List.length_replicate]; omega, fset aa q a', ?_, ?_, ?_, ?_⟩
            · refine (o2.cong fun i hi => ?_).wr n1 n2 (.inr rfl) _
              rw [e]
              by_cases c : i = q
              · rw [c, fset_same, if_pos (Nat.lt_succ_self q)]
                rfl
              · rw [fset_ne c]
                by_cases c2 : i < q
                · rw [if_pos c2, if_pos (Nat.lt_succ_of_lt c2)]
                · rw [if_neg c2, if_neg (by omega)]
            · have h1 := k2.ls _ _ (.inl rfl) hpr
              rw [upd_ne fun w => by rw [w, hD2] at h1; injection h1 with h1; injection h1 with h1; have := congrArg List.length h1; rw [List.length_replicate] at this; have : q = 2 := this; omega]
              exact h1
            · have h1 := k2.tp _ _ hwt
              rw [upd_ne fun w => by rw [w, hD2] at h1; cases h1]
              exact h1
            · rw [upd_same, e]
              show some (HO.lst (List.replicate q (V.bl true) ++ [V.bl true])) = some (HO.lst (List.replicate (q + 1) (V.bl true)))
              rw [List.replicate_succ']
          · rw [del_add hu]
            have o2 := o1.ex n1 n2 x
            have hD2 := x.lst hD
            refine ⟨_, hD2, by rw [List.length_replicate]; omega, aa, ?_, ?_, ?_, ?_⟩
            · refine (o2.cong fun i hi => ?_).wr n1 n2 (.inr rfl) _
              rw [e]
              by_cases c2 : i < q
              · rw [if_pos c2, if_pos (Nat.lt_succ_of_lt c2)]
              · rw [if_neg c2]
                by_cases c3 : i < q + 1
                · rw [if_pos c3]; rfl
                · rw [if_neg c3]
            · have h1 := x.lst hpr
              rw [upd_ne fun w => by rw [w, hD2] at h1; injection h1 with h1; injection h1 with h1; have := congrArg List.length h1; rw [List.length_replicate] at this; have : q = 2 := this; omega]
              exact h1
            · have h1 := x.tup hwt
              rw [upd_ne fun w => by rw [w, hD2] at h1; cases h1]
              exact h1
            · rw [upd_same, e]
              show some (HO.lst (List.replicate q V.non ++ [V.non])) = some (HO.lst (List.replicate (q + 1) V.non))
              rw [List.replicate_succ']
        rintro H22 ⟨aa, o, hpr, hwt, hD⟩
        have o := (o.add n1 n2 (Ex.refl o.tab) (Z' := fun c => c = pr) fun c e => .inl (.inl e)).cong (Ss' := fun _ => (step4 S h wh).getD S) fun i hi => if_pos hi
        have hv : (if (step4 S h wh).isSome = true then V.bl true else V.non) = V.non ∨ ∃ b, (if (step4 S h wh).isSome = true then V.bl true else V.non) = V.bl b := by
          cases step4 S h wh
          · exact .inl rfl
          · exact .inr ⟨_, rfl⟩
        refine ⟨_, rfl, D, _, 0, _, rfl, rfl, SqL.of hD, atI_nat (j := 0) rfl, _, rfl, D, _, 1, _, rfl, rfl, SqL.of hD, atI_nat (j := 1) rfl, ne_val hv ⟨false, rfl, iteF ?_⟩⟩
        refine ⟨_, _, aa, (step4 S h wh).getD S, rfl, o, hpr, hwt, ?_⟩
        cases e : step4 S h wh with
        | none => exact ⟨⟨O, n0, g⟩, on, sn, by show S.signs.length ≤ _; omega, by show S.deeds.length ≤ _; omega⟩
        | some S' =>
          obtain ⟨⟨O', g'⟩, on', a1, a2, a3⟩ := step4_gp g on okw hh l1' l2' e
          exact ⟨⟨O', n0, g'⟩, on', a3.trans sn, by show S'.signs.length ≤ _; omega, by show S'.deeds.length ≤ _; omega⟩
      · rintro σ H21 ⟨c10, c11, aa, S, rfl, o, hpr, hwt, gE, on, sn, sl, sd⟩
        rw [e6] at sl sd
        exact ⟨_, _, _, _, _, _, aa, S, rfl, o, hpr, gE, on, sn, by omega, by omega⟩
    clear o hpr g0E on0 sn sl sd
    rintro σ H10 ⟨c6, c7, c8, c9, c10, c11, aa, S, rfl, o, hpr, ⟨O, n0, g⟩, on, sn, sl, sd⟩
    rw [e30] at sl sd
    have sl : S.signs.length ≤ 2400 := by omega
    have sd : S.deeds.length ≤ 180 := by omega
    -- how many of each are taken back
    refine ⟨by show 0 ≤ sizeLine; decide, fun cl ncl => ?_⟩
    have hcl := upd_same (H := H10) (a := cl) (o := HO.lst (nV []))
    have xc := Ex.laid (o := .lst []) o.tab ncl
    have o := o.add n1 n2 xc (Z' := fun c => c = pr ∨ c = cl) fun c e => e.imp id fun (e : c = cl) => ⟨e ▸ ncl, [], by rw [e]; exact upd_same⟩
    have hpr := xc.lst hpr
    have npc : pr ≠ cl := fun e => by
      have := xc.old cl
      rw [← e] at ncl
      have h1 := xc.lst (a := pr) (xs := [])
      exact absurd hpr (by rw [e]; rw [show upd H10 cl (.lst []) cl = some (.lst []) from upd_same]; intro z; injection z with z; injection z with z; cases z)
    refine ⟨_, rfl, _, rfl, by omega, by omega, ?_⟩
    refine for_range (n := (((n : Nat) : Int)).toNat) (fun j σ H' => ∃ (c7 c13 : Option V) (cn : List Nat), σ = [some (.ref sc), some (.ref b), some (.ref pg), some (.ref st), some (.int (n : Nat)), some (.ref pr), c6, c7, c8, c9, c10, c11, some (.ref cl), c13, none, none, none, none, none, none] ∧ SitP K cs B p1 p2 b l st gap least ta (fun c => c = pr ∨ c = cl) aa (fun _ => S) H' ∧ H' pr = some (.lst [V.ref (ta 0), V.ref (ta 1)]) ∧ H' cl = some (.lst (nV cn)) ∧ cn.length = j ∧ ∀ h, h < j → cn.getD h 0 ≤ (ownD S.deeds h).length)
      ⟨_, _, [], rfl, o, hpr, hcl, rfl, fun h hh => absurd hh (Nat.not_lt_zero h)⟩ ?_ ?_
    · clear hcl hpr o
      rintro j σ H11 hj ⟨c7, c13, cn, rfl, o, hpr, hcl, lcn, hcn⟩
      rw [show (0 : Int) + (j : Nat) = (j : Nat) from Int.zero_add _]
      have hj : j < n := hj
      have td := o.tt 0 (by decide)
      refine ⟨_, rfl, pr, _, 0, .ref (ta 0), rfl, rfl, SqL.of hpr, atI_nat (j := 0) rfl, ta 0, (aa 0).dx, _, rfl, td.ob, rfl, tnil_go ⟨ta 0, aa 0, S, rfl, td, g.tok, fun DB H12 tl => ?_⟩⟩
      obtain ⟨ts, tB⟩ := told_of tl
      have x12 := tl.sm
      have o := o.ex n1 n2 (same_ex x12 o.tab)
      have hpr := x12 _ _ hpr
      have hcl := x12 _ _ hcl
      refine ⟨DB, rfl, ⟨_, SqL.of tB.lst⟩, fun D nD => lc_list (xs := ts.map V.ref) (fun q H' => Same H12 H' ∧ ∃ us, H' D = some (.lst us) ∧ us.length = ((List.range q).filter fun i => decide ((S.deeds.getD i d0).1 = j)).length) ⟨same_new nD, [], upd_same, rfl⟩ (fun q H' _ h => SqL.of (h.1 _ _ tB.lst)) ?_ ?_⟩
      · rintro q v H13 hv ⟨x13, us, hu1, hu2⟩
        obtain ⟨t, ht, rfl⟩ := get_map hv
        have hq : q < S.deeds.length := by rw [← tB.len]; exact (List.getElem?_eq_some_iff.mp ht).1
        have et := (tB.same x13).at_ q t (S.deeds.getD q d0) ht (by rw [List.getD_eq_getElem?_getD, List.getElem?_eq_getElem hq]; rfl)
        have fs := filt_step (p := fun i => decide ((S.deeds.getD i d0).1 = j)) q
        refine ⟨rfl, _, rfl, t, _, 0, .int ((S.deeds.getD q d0).1 : Nat), rfl, rfl, SqT.of et, atI_nat (j := 0) rfl, _, rfl, rfl, decide ((S.deeds.getD q d0).1 = j), congrArg V.bl (by simp [Int.ofNat_inj]), ?_⟩
        have lu : us.length ≤ q := by rw [hu2]; exact Nat.le_trans (List.length_filter_le _ _) (by rw [List.length_range]; exact Nat.le_refl _)
        by_cases c : (S.deeds.getD q d0).1 = j
        · rw [decide_eq_true c] at fs ⊢
          rw [if_pos rfl] at fs
          refine iteT ⟨_, rfl, us, hu1, by omega, fun d u hd => by rw [upd_ne (ne_of_none hd nD)]; exact x13 _ _ hd, us ++ [.ref t], upd_same, ?_⟩
          rw [fs, List.length_append, List.length_append, hu2]
          rfl
        · rw [decide_eq_false c] at fs ⊢
          rw [if_neg (by simp), List.append_nil] at fs
          exact iteF ⟨x13, us, hu1, by rw [fs]; exact hu2⟩
      rintro H13 ⟨x13, us, hu1, hu2⟩
      have hul : us.length = (ownD S.deeds j).length := by
        rw [hu2, List.length_map, tB.len]
        rfl
      have o := o.ex n1 n2 (same_ex x13 o.tab)
      have hpr := x13 _ _ hpr
      have hcl := x13 _ _ hcl
      have lo := ownD_len S.deeds j
      refine ⟨D, _, rfl, .inl (SqL.of hu1), ?_⟩
      refine ⟨_, rfl, .inl ⟨rfl, _, SqL.of hcl⟩, _, rfl, _, rfl, _, 1, rfl, rfl, b, l, _, rfl, o.box, by omega, by omega, fun r H14 r0 r1 hB14 x14 => ?_⟩
      have k14 := (o.draw n1 n2 x14 hB14).2
      have o := (o.draw n1 n2 x14 hB14).1
      have hpr := k14.ls _ _ (.inl rfl) hpr
      have hcl := k14.ls _ _ (.inr rfl) hcl
      obtain ⟨r, rfl⟩ := Int.eq_ofNat_of_zero_le r0
      refine ⟨cl, _, _, rfl, rfl, hcl, by rw [nV_len]; omega, ?_⟩
      refine ⟨_, _, cn ++ [r], rfl, o.wr n1 n2 (.inr rfl) _, by rw [upd_ne npc]; exact hpr, ?_, by rw [List.length_append, lcn]; rfl, fun q hq => ?_⟩
      · rw [upd_same]
        unfold nV
        rw [List.map_append]
        rfl
      · rw [List.getD_eq_getElem?_getD]
        by_cases c : q < j
        · rw [List.getElem?_append_left (by omega), ← List.getD_eq_getElem?_getD]
          exact hcn q c
        · have e : q = j := by omega
          subst e
          rw [List.getElem?_append_right (by omega), lcn, Nat.sub_self]
          show r ≤ _
          omega
    clear hcl hpr o
    rintro σ H11 ⟨c7, c13, cn, rfl, o, hpr, hcl, lcn, hcn⟩
    have lcn : cn.length = n := lcn
    have hcn : ∀ h, h < n → cn.getD h 0 ≤ (ownD S.deeds h).length := hcn
    -- the page and the deeds as they were
    have td := o.tt 0 (by decide)
    refine ⟨_, rfl, pr, _, 0, .ref (ta 0), rfl, rfl, SqL.of hpr, atI_nat (j := 0) rfl, ta 0, (aa 0).dx, _, rfl, td.ob, rfl, tnil_go ⟨ta 0, aa 0, S, rfl, o.tab, td, g.tok, fun rp ps H12 x12 nrp hrp hps => ?_⟩⟩
    have hpr12 := x12.lst hpr
    have td12 := td.gw x12.ext
    refine ⟨_, rfl, pr, _, 0, .ref (ta 0), rfl, rfl, SqL.of hpr12, atI_nat (j := 0) rfl, ta 0, (aa 0).dx, _, rfl, td12.ob, rfl, tnil_go ⟨ta 0, aa 0, S, rfl, td12, g.tok, fun DB H13 tl => ⟨by show 2 ≤ sizeLine; decide, fun la nla => ⟨by show 2 ≤ sizeLine; decide, fun lb nlb => ?_⟩⟩⟩⟩
    obtain ⟨ts, tB⟩ := told_of tl
    have nDB := x12.old _ tl.nD
    have s13 := tl.sm
    have s14 := same_new (o := HO.lst [V.ref rp, V.ref DB]) nla
    have s15 := same_new (o := HO.lst [V.bl true, V.bl false]) nlb
    have hla := s15 _ _ (upd_same (H := H13) (a := la) (o := HO.lst [V.ref rp, V.ref DB]))
    have hlb := upd_same (H := upd H13 la (.lst [V.ref rp, V.ref DB])) (a := lb) (o := HO.lst [V.bl true, V.bl false])
    have nla0 : H11 la = none := x12.old _ (same_old s13 nla)
    have nlb0 : H11 lb = none := x12.old _ (same_old (same_trans s13 s14) nlb)
    have s35 := same_trans s14 s15
    generalize upd (upd H13 la (.lst [V.ref rp, V.ref DB])) lb (.lst [V.bl true, V.bl false]) = H15 at hla hlb s35 ⊢
    have tB15 := tB.same s35
    have x15 := x12.trans (same_ex (same_trans s13 s35) x12.tab)
    have hrp15 := s35 _ _ (s13 _ _ hrp)
    have hps15 : RowsAt ps (rowsS S) H15 := by
      rw [← g.rows']
      exact ⟨hps.len, fun i q z h1 h2 => s35 _ _ (s13 _ _ (hps.row i q z h1 h2))⟩
    have o := o.add n1 n2 x15 (Z' := fun c => (c = pr ∨ c = cl) ∨ c = la ∨ c = rp ∨ c = DB ∨ c = lb) fun c e => e.imp id fun e => by
      rcases e with e | e | e | e <;> subst e
      · exact ⟨nla0, _, hla⟩
      · exact ⟨nrp, _, hrp15⟩
      · exact ⟨nDB, _, tB15.lst⟩
      · exact ⟨nlb0, _, hlb⟩
    have hpr := x15.lst hpr
    have hcl := x15.lst hcl
    have dla : DpZ K (fun c => (c = pr ∨ c = cl) ∨ c = la ∨ c = rp ∨ c = DB ∨ c = lb) H15 (.ref la) (lastD S) := fun H' x =>
      .lst (SqL.of (x.ls _ _ (.inr (.inl rfl)) hla)) (.cons (dpz_page hrp15 (.inr (.inr (.inl rfl))) hps15 H' x) (.cons (tB15.dz (.inr (.inr (.inr (.inl rfl)))) H' x) .nil))
    have sgD : ∀ d ∈ S.deeds, SgD d := on.sg
    have st0 : Post O n0 S.deeds S.signs n cn 0 S := ⟨g, Ph.start on, rfl, sn, fun h hh => by
      have hu : h < S.undone.length := by rw [← g.hn, sn]; exact hh
      rw [on.un _ (getD_mem hu)]
      rfl⟩
    have pgS := g.pg
    clear x12 hpr12 td td12 nrp hrp hps tl tB nDB s13 s14 s15 s35 nla0 nlb0 x15 hrp15 hps15 tB15 nla nlb sl sd
    -- taken back, let stand again
    refine ⟨lb, rfl, ⟨_, SqL.of hlb⟩, ?_⟩
    refine for_list (xs := [V.bl true, V.bl false]) (fun j σ H' => ∃ (c15 c16 c17 : Option V) (aa : Nat → TA) (Ss : Nat → TSt), σ = [some (.ref sc), some (.ref b), some (.ref pg), some (.ref st), some (.int (n : Nat)), some (.ref pr), c6, c7, c8, c9, c10, c11, some (.ref cl), c13, some (.ref la), c15, c16, c17, none, none] ∧ SitP K cs B p1 p2 b l st gap least ta (fun c => (c = pr ∨ c = cl) ∨ c = la ∨ c = rp ∨ c = DB ∨ c = lb) aa Ss H' ∧ Kp (fun c => (c = pr ∨ c = cl) ∨ c = la ∨ c = rp ∨ c = DB ∨ c = lb) H15 H' ∧ ∀ i, i < 2 → Post O n0 S.deeds S.signs n cn j (Ss i))
      ⟨none, none, none, aa, fun _ => S, rfl, o, Kp.refl, fun i _ => st0⟩ (fun j σ H' _ ⟨_, _, _, _, _, _, _, kp, _⟩ => SqL.of (kp.ls _ _ (.inr (.inr (.inr (.inr rfl)))) hlb)) ?_ ?_
    · clear o st0
      rintro j v σ H16 hv ⟨c15, c16, c17, aa, Ss, rfl, o, kp, ps0⟩
      have hj : j < 2 := (List.getElem?_eq_some_iff.mp hv).1
      obtain ⟨bk, ebk, rfl⟩ : ∃ bk : Bool, (bk = true ↔ j = 0) ∧ v = .bl bk := by
        match j, hj, hv with
        | 0, _, hv => cases hv; exact ⟨true, by simp, rfl⟩
        | 1, _, hv => cases hv; exact ⟨false, by simp, rfl⟩
      have hpr := kp.ls _ _ (.inl (.inl rfl)) hpr
      have hcl := kp.ls _ _ (.inl (.inr rfl)) hcl
      refine ⟨_, rfl, pr, rfl, ⟨_, SqL.of hpr⟩, fun D nD => ?_⟩
      have xD := Ex.laid (o := .lst []) o.tab nD
      have nz : ∀ c, ((c = pr ∨ c = cl) ∨ c = la ∨ c = rp ∨ c = DB ∨ c = lb) → c ≠ D := fun c hc e => by
        obtain ⟨us, hus⟩ := o.ze c hc
        rw [e, nD] at hus
        cases hus
      have kD : Kp (fun c => (c = pr ∨ c = cl) ∨ c = la ∨ c = rp ∨ c = DB ∨ c = lb) H16 (upd H16 D (.lst [])) := Kp.ext xD.ext
      refine lc_list (xs := [V.ref (ta 0), V.ref (ta 1)]) (fun q H' => ∃ (aa' : Nat → TA) (Ss' : Nat → TSt) (vs : List V), SitP K cs B p1 p2 b l st gap least ta (fun c => ((c = pr ∨ c = cl) ∨ c = la ∨ c = rp ∨ c = DB ∨ c = lb) ∨ c = D) aa' Ss' H' ∧ Kp (fun c => (c = pr ∨ c = cl) ∨ c = la ∨ c = rp ∨ c = DB ∨ c = lb) H16 H' ∧ H' D = some (.lst vs) ∧ vs.length = q ∧ (∀ i, q ≤ i → i < 2 → Ss' i = Ss i) ∧
          ∀ i, i < q → vs[i]? = some .non ∨ (vs[i]? = some (.bl true) ∧ Post O n0 S.deeds S.signs n cn (j + 1) (Ss' i)))
        ⟨aa, Ss, [], o.add n1 n2 xD (fun c e => e.imp id fun (e : c = D) => ⟨e ▸ nD, [], by rw [e]; exact upd_same⟩), kD, upd_same, rfl, fun i _ _ => rfl, fun i hi => absurd hi (Nat.not_lt_zero i)⟩ (fun q H' _ ⟨_, _, _, _, k1, _⟩ => SqL.of (k1.ls _ _ (.inl (.inl rfl)) hpr)) ?_ ?_
      · clear xD kD
        rintro q v H17 hv ⟨aa', Ss', vs, o, k1, hD, lvs, sm, dn⟩
        have hq : q < 2 := (List.getElem?_eq_some_iff.mp hv).1
        have ev : v = .ref (ta q) := by
          match q, hq, hv with
          | 0, _, hv => cases hv; rfl
          | 1, _, hv => cases hv; rfl
        subst ev
        have hcl1 := k1.ls _ _ (.inl (.inr rfl)) hcl
        obtain ⟨z1, z2⟩ := o.zb cl (.inl (.inl (.inr rfl)))
        obtain ⟨gq, pq, sq, lq, eq⟩ := ps0 q hq
        have td := o.tt q hq
        rw [sm q (Nat.le_refl _) hq] at td
        have hb : ∀ c ∈ cn, c ≤ 1000 := fun c hc => by
          obtain ⟨i, hi, rfl⟩ := List.mem_iff_getElem.mp hc
          have h1 := hcn i (by omega)
          rw [List.getD_eq_getElem?_getD, List.getElem?_eq_getElem hi] at h1
          have h2 := ownD_len S.deeds i
          have h3 := g.m1.lD
          exact Nat.le_trans h1 (Nat.le_trans h2 h3)
        refine ⟨rfl, _, rfl, _, rfl, _, rfl, b, l, cl, cn, rfl, o.box, hcl1, z1, z2, by omega, hb, fun r ods H18 hB18 x18 nr hr hods => ?_⟩
        have k18 := (o.draw n1 n2 x18 hB18).2
        have o2 := (o.draw n1 n2 x18 hB18).1
        have td2 := o2.tt q hq
        rw [sm q (Nat.le_refl _) hq] at td2
        have hin : ∀ h ∈ ods, h < (Ss q).spots.length := fun h hh => by
          have c1 := List.count_pos_iff.mpr hh
          rw [hods] at c1
          rw [lq, ← lcn]
          refine Decidable.byContradiction fun w => ?_
          rw [List.getD_eq_getElem?_getD, List.getElem?_eq_none (by omega)] at c1
          cases c1
        refine ⟨_, rfl, ta q, r, bk, aa' q, Ss q, O, n0, S.deeds, ods, rfl, o2.tab, o2.l1, td2, gq, pq, sgD, hr, fun z => mob_some td.mob z nr, hin, fun h hh => ?_, fun v a' S' H19 mv t1 L1 td' hres => ?_⟩
        · rw [lq] at hh
          rw [hods, eq h hh]
          cases bk with
          | true =>
            have e : j = 0 := ebk.mp rfl
            rw [if_pos rfl, e, if_neg (by decide), Nat.add_zero]
            exact hcn h hh
          | false =>
            have e : j = 1 := by
              have : j ≠ 0 := fun z => by have := ebk.mpr z; cases this
              omega
            rw [if_neg (by decide), e, if_pos rfl]
            exact Nat.le_refl _
        · obtain ⟨o3, k3⟩ := o2.table n2 np hq mv t1 L1 td'
          have hD3 := k3.ls _ _ (.inr rfl) (k18.ls _ _ (.inr rfl) hD)
          have k3' : Kp (fun c => (c = pr ∨ c = cl) ∨ c = la ∨ c = rp ∨ c = DB ∨ c = lb) H17 H19 := ⟨fun c us hc h => k3.ls _ _ (.inl hc) (k18.ls _ _ (.inl hc) h), fun c us h => k3.tp _ _ (k18.tp _ _ h)⟩
          refine ⟨vs, hD3, by omega, fset aa' q a', fset Ss' q S', vs ++ [v], o3.wr n1 n2 (.inr rfl) _, (k1.tr k3').tr (Kp.wr hD3 fun z => nz D z rfl), upd_same, by rw [List.length_append, lvs]; rfl, fun i h1 h2 => ?_, fun i hi => ?_⟩
          · rw [fset_ne (by omega)]
            exact sm i (by omega) h2
          · by_cases c : i = q
            · subst c
              rw [fset_same, List.getElem?_append_right (by omega), lvs, Nat.sub_self]
              rcases hres with e | ⟨e, g', p', s', l', e'⟩
              · exact .inl (by rw [e]; rfl)
              · refine .inr ⟨by rw [e]; rfl, g', p', s'.trans sq, l'.trans lq, fun h hh => ?_⟩
                have h1 := e' h (by rw [lq]; exact hh)
                rw [hods, eq h hh] at h1
                rw [h1]
                cases bk with
                | true =>
                  have e : j = 0 := ebk.mp rfl
                  rw [if_pos rfl, e, if_neg (by decide), if_pos rfl, Nat.zero_add]
                | false =>
                  have e : j = 1 := by
                    have : j ≠ 0 := fun z => by have := ebk.mpr z; cases this
                    omega
                  rw [if_neg (by decide), e, if_pos rfl, if_neg (by decide), Nat.sub_self]
            · rw [fset_ne c, List.getElem?_append_left (by omega)]
              exact dn i (by omega)
      rintro H17 ⟨aa', Ss', vs, o, k1, hD, lvs, _, dn⟩
      have d0' := dn 0 (by show 0 < 2; decide)
      have d1' := dn 1 (by show 1 < 2; decide)
      obtain ⟨v0, v1, rfl⟩ : ∃ v0 v1, vs = [v0, v1] := by
        match vs, lvs with
        | [a, b], _ => exact ⟨a, b, rfl⟩
      have o := o.add n1 n2 (Ex.refl o.tab) (Z' := fun c => (c = pr ∨ c = cl) ∨ c = la ∨ c = rp ∨ c = DB ∨ c = lb) fun c e => .inl (.inl e)
      have c0 : v0 = .non ∨ (v0 = .bl true ∧ Post O n0 S.deeds S.signs n cn (j + 1) (Ss' 0)) := d0'.imp (fun e => by injection e) fun e => ⟨by have := e.1; injection this, e.2⟩
      have c1 : v1 = .non ∨ (v1 = .bl true ∧ Post O n0 S.deeds S.signs n cn (j + 1) (Ss' 1)) := d1'.imp (fun e => by injection e) fun e => ⟨by have := e.1; injection this, e.2⟩
      clear d0' d1' dn lvs
      by_cases both : (v0 = .bl true ∧ Post O n0 S.deeds S.signs n cn (j + 1) (Ss' 0)) ∧ (v1 = .bl true ∧ Post O n0 S.deeds S.signs n cn (j + 1) (Ss' 1))
      · obtain ⟨⟨rfl, P0⟩, rfl, P1⟩ := both
        refine ⟨_, rfl, D, _, rfl, .inl (SqL.of hD), rfl, rfl, false, rfl, iteF ?_⟩
        refine ⟨_, rfl, D, _, rfl, .inl (SqL.of hD), rfl, rfl, false, rfl, iteF ?_⟩
        have hpr := k1.ls _ _ (.inl (.inl rfl)) hpr
        have PQ : ∀ q, q < 2 → Post O n0 S.deeds S.signs n cn (j + 1) (Ss' q) := fun q hq => by
          have h2 : q = 0 ∨ q = 1 := by omega
          rcases h2 with e | e <;> subst e
          · exact P0
          · exact P1
        refine ⟨_, rfl, pr, rfl, ⟨_, SqL.of hpr⟩, fun E nE => ?_⟩
        refine lc_list (xs := [V.ref (ta 0), V.ref (ta 1)]) (fun q H' => ∃ rs : List Addr, Ex cs H17 H' ∧ H' E = some (.lst (rs.map V.ref)) ∧ rs.length = q ∧ ∀ i r, rs[i]? = some r → DpZ K (fun c => c ≠ E) H' (.ref r) (foundD (Ss' i) gap least))
          ⟨[], Ex.laid o.tab nE, upd_same, rfl, fun i r h => nomatch h⟩ (fun q H' _ ⟨_, x, _⟩ => SqL.of (x.lst hpr)) ?_ ?_
        · rintro q v H18 hv ⟨rs, x18, hE, lrs, hrs⟩
          have hq : q < 2 := (List.getElem?_eq_some_iff.mp hv).1
          have ev : v = .ref (ta q) := by
            match q, hq, hv with
            | 0, _, hv => cases hv; rfl
            | 1, _, hv => cases hv; rfl
          subst ev
          have PP := PQ q hq
          have o8 := o.ex n1 n2 x18
          have td8 := o8.tt q hq
          refine ⟨rfl, _, rfl, ta q, (aa' q).dx, _, rfl, td8.ob, rfl, tnil_go ⟨ta q, aa' q, Ss' q, rfl, o8.tab, td8, PP.1.tok, fun r1' ps1 H19 x19 nr1 hr1 hps1 => ?_⟩⟩
          have o9 := o8.ex n1 n2 x19
          have td9 := o9.tt q hq
          refine ⟨_, rfl, ta q, (aa' q).dx, _, rfl, td9.ob, rfl, tnil_go ⟨ta q, aa' q, Ss' q, gap, least, rfl, o9.tab, td9, PP.1.tok, by rw [o9.est q hq]; exact o9.sty, PP.1.page, fun r2' es H20 x20 nr2 nes hes => ?_⟩⟩
          have o10 := o9.ex n1 n2 x20
          have td10 := o10.tt q hq
          refine ⟨_, rfl, ta q, (aa' q).dx, _, rfl, td10.ob, rfl, tnil_go ⟨ta q, aa' q, Ss' q, rfl, td10, PP.1.tok, fun r3' H21 tl => ⟨by show 3 ≤ sizeLine; decide, fun r4 nr4 => ?_⟩⟩⟩
          obtain ⟨ts3, tB3⟩ := told_of tl
          have s21 := tl.sm
          have nr3 := tl.nD
          have s22 := same_new (o := HO.lst [V.ref r1', V.ref r2', V.ref r3']) nr4
          have hr4 := upd_same (H := H21) (a := r4) (o := HO.lst [V.ref r1', V.ref r2', V.ref r3'])
          have ne4 : r4 ≠ E := fun e => by
            have h1 := s21 _ _ (x20.lst (x19.lst hE))
            rw [← e, nr4] at h1
            cases h1
          generalize upd H21 r4 (.lst [V.ref r1', V.ref r2', V.ref r3']) = H22 at s22 hr4 ⊢
          have x22 := x19.trans (x20.trans (same_ex (same_trans s21 s22) x20.tab))
          have hE22 := x22.lst hE
          have ne1 : r1' ≠ E := fun e => by rw [e, hE] at nr1; cases nr1
          have ne2 : r2' ≠ E := fun e => by rw [e, x19.lst hE] at nr2; cases nr2
          have ne3 : r3' ≠ E := fun e => by rw [e, x20.lst (x19.lst hE)] at nr3; cases nr3
          have nee : ∀ e ∈ es, e ≠ E := fun e he z => by
            have h1 := nes e he
            rw [z, x19.lst hE] at h1
            cases h1
          rw [PP.1.rows'] at hps1 hes
          have xb := x20.trans (same_ex (same_trans s21 s22) x20.tab)
          have sb := same_trans s21 s22
          have base : DpZ K (fun c => c ≠ E) H22 (.ref r4) (foundD (Ss' q) gap least) := fun H' x =>
            .lst (SqL.of (x.ls _ _ ne4 hr4)) (.cons (dpz_page (xb.lst hr1) ne1 ⟨hps1.len, fun i q z h1 h2 => xb.tup (hps1.row i q z h1 h2)⟩ H' x)
              (.cons (dpz_told (Z := fun c => c ≠ E) ⟨sb _ _ hes.lst, hes.len, hes.nd, fun i e h => sb _ _ (hes.at_ i e h)⟩ ne2 nee H' x) (.cons ((tB3.same s22).dz ne3 H' x) .nil)))
          have kw : Kp (fun c => c ≠ E) H22 (upd H22 E (.lst (rs.map V.ref ++ [V.ref r4]))) := Kp.wr hE22 fun z => z rfl
          refine ⟨_, hE22, by rw [List.length_map, lrs]; omega, rs ++ [r4], ex_new o.tab (x18.trans x22) nE, by rw [upd_same, List.map_append]; rfl, by rw [List.length_append, lrs]; rfl, fun i r hi => ?_⟩
          by_cases c : i < rs.length
          · rw [List.getElem?_append_left c] at hi
            exact (hrs i r hi).kp ((Kp.ext x22.ext).tr kw)
          · have li := (List.getElem?_eq_some_iff.mp hi).1
            rw [List.length_append] at li
            have li : i < rs.length + 1 := li
            have ei : i = rs.length := by omega
            subst ei
            rw [List.getElem?_append_right (Nat.le_refl _), Nat.sub_self] at hi
            cases hi
            rw [lrs]
            exact base.kp kw
        rintro H18 ⟨rs, x18, hE, lrs, hrs⟩
        obtain ⟨r0', r1', rfl⟩ : ∃ r0 r1, rs = [r0, r1] := by
          match rs, lrs with
          | [a, b], _ => exact ⟨a, b, rfl⟩
        obtain ⟨ed, er⟩ := P0.same P1
        have sh := shaped_found (gap := gap) (least := least) P0.1.pg (P0.sg sgD)
        have E0 := (hrs 0 r0' rfl).dp
        have E1 := (hrs 1 r1' rfl).dp
        rw [← found_eq ed er] at E1
        refine ⟨_, rfl, E, _, 0, .ref r0', rfl, rfl, SqL.of hE, atI_nat (j := 0) rfl, _, rfl, E, _, 1, .ref r1', rfl, rfl, SqL.of hE, atI_nat (j := 1) rfl, _, _, E0, E1, sh.1, sh.1, ?_⟩
        rw [sh.2]
        refine ⟨false, rfl, iteF ?_⟩
        exact ⟨_, _, _, aa', Ss', rfl, o.ex n1 n2 x18, kp.tr (k1.tr (Kp.ext x18.ext)), PQ⟩
      · have nn : inV V.non [v0, v1] = true ∧ inV (V.bl false) [v0, v1] = false ∧ ([v0, v1] : List V).all flatV = true := by
          rcases c0 with rfl | ⟨rfl, P0⟩
          · rcases c1 with rfl | ⟨rfl, P1⟩
            · exact ⟨rfl, rfl, rfl⟩
            · exact ⟨rfl, rfl, rfl⟩
          · rcases c1 with rfl | ⟨rfl, P1⟩
            · exact ⟨rfl, rfl, rfl⟩
            · exact absurd ⟨⟨rfl, P0⟩, rfl, P1⟩ both
        refine ⟨_, rfl, D, _, rfl, .inl (SqL.of hD), rfl, nn.2.2, false, congrArg V.bl nn.2.1, iteF ?_⟩
        refine ⟨_, rfl, D, _, rfl, .inl (SqL.of hD), rfl, nn.2.2, true, congrArg V.bl nn.1, iteT (k _)⟩
    clear o st0
    rintro σ H16 ⟨c15, c16, c17, aa, Ss, rfl, o, kp, ps0⟩
    obtain ⟨g', p', s', l', e'⟩ := ps0 0 (by decide)
    have ed : (Ss 0).deeds = S.deeds := p'.all on.on fun h hh => by
      rw [← g'.hn, l'] at hh
      exact e' h hh
    have er : rowsS (Ss 0) = rowsS S := by
      unfold rowsS
      rw [s', g'.ord, g.ord, ed]
    have hpr := kp.ls _ _ (.inl (.inl rfl)) hpr
    have td := o.tt 0 (by decide)
    refine ⟨_, rfl, pr, _, 0, .ref (ta 0), rfl, rfl, SqL.of hpr, atI_nat (j := 0) rfl, ta 0, (aa 0).dx, _, rfl, td.ob, rfl, tnil_go ⟨ta 0, aa 0, Ss 0, rfl, o.tab, td, g'.tok, fun rq qs H17 x17 nrq hrq hqs => ?_⟩⟩
    have td17 := td.gw x17.ext
    refine ⟨_, rfl, pr, _, 0, .ref (ta 0), rfl, rfl, SqL.of (x17.lst hpr), atI_nat (j := 0) rfl, ta 0, (aa 0).dx, _, rfl, td17.ob, rfl, tnil_go ⟨ta 0, aa 0, Ss 0, rfl, td17, g'.tok, fun DC H18 tl => ⟨by show 2 ≤ sizeLine; decide, fun lc nlc => ?_⟩⟩⟩
    obtain ⟨ts2, tC2⟩ := told_of tl
    have s18 := tl.sm
    have s19 := same_new (o := HO.lst [V.ref rq, V.ref DC]) nlc
    have hlc := upd_same (H := H18) (a := lc) (o := HO.lst [V.ref rq, V.ref DC])
    generalize upd H18 lc (.lst [V.ref rq, V.ref DC]) = H19 at s19 hlc ⊢
    rw [g'.rows'] at hqs
    have sb := same_trans s18 s19
    have x19 := x17.trans (same_ex sb x17.tab)
    have dlc : DpZ K (fun _ => True) H19 (.ref lc) (lastD (Ss 0)) := fun H' x =>
      .lst (SqL.of (x.ls _ _ trivial hlc)) (.cons (dpz_page (sb _ _ hrq) trivial ⟨hqs.len, fun i q z h1 h2 => sb _ _ (hqs.row i q z h1 h2)⟩ H' x) (.cons ((tC2.same s19).dz (Z := fun _ => True) trivial H' x) .nil))
    have sh := shaped_last (S := S) pgS sgD
    have d1 := dlc.dp
    rw [last_eq ed er] at d1
    refine ⟨_, rfl, _, _, d1, (dla.kp (kp.tr (Kp.ext x19.ext))).dp, sh.1, sh.1, ?_⟩
    rw [sh.2]
    exact k _
end
end TG

namespace TG
open PySem PySem.Spec PyProof.Rows L2
/-! ### the head -/
theorem const_of : True := trivial
theorem subL {K : PySem.W.Frag} {q : Addr × Addr} (h : q ∈ tfB.map (He.cT K)) : q ∈ tfL.map (He.cT K) := by
  unfold tfL
  rw [List.map_append]
  exact List.mem_append_left _ h
theorem memL {K : PySem.W.Frag} {r : He.Defn} (h : r ∈ lmL) : He.cT K r ∈ tfL.map (He.cT K) := by
  unfold tfL
  rw [List.map_append]
  exact List.mem_append_right _ (List.mem_map_of_mem h)
theorem ne_of_ex {K : PySem.W.Frag} (h : exL K = true) {r : He.Defn} (hr : r ∈ lmL) : ApartT (tfB.map (He.cT K)) (He.cT K r).2 := fun q hq => by
  obtain ⟨d, hd, rfl⟩ := List.mem_map.mp hq
  have z := (Bool.and_eq_true_iff.mp (List.all_eq_true.mp h r hr)).1
  have z := List.all_eq_true.mp z d hd
  simpa using z
theorem ne_of_ex2 {K : PySem.W.Frag} (h : exL K = true) {r q : He.Defn} (hr : r ∈ lmL) (hq : q ∈ lmL) (n : q ≠ r) : (He.cT K q).2 ≠ (He.cT K r).2 := by
  have z := (Bool.and_eq_true_iff.mp (List.all_eq_true.mp h r hr)).2
  have z := List.all_eq_true.mp z q hq
  simpa [n] using z
theorem fun_of {K : PySem.W.Frag} {x : Str} {st : Stmt} {f : Addr} {fd : FuncData} (F : FunD K x x (defArgs st) (defBody st) (defScope st) [] [] f fd) : Fun K x x st f fd := by
  obtain ⟨⟨oc, od, dV, kV, doc, pm, an, cdv, ct, osl, e, lk, hcd, hd, _⟩, kp⟩ := F
  rcases hd with ⟨_, hd⟩ | ⟨hd, _⟩
  · subst hd
    exact ⟨⟨oc, od, kV, doc, pm, an, cdv, ct, osl, e, lk, hcd⟩, kp⟩
  · exact absurd rfl hd
/-- a def of the top, by its name -/
structure At (K : PySem.W.Frag) (mg : Str → Option Value) (x : Str) (st : Stmt) (fd : FuncData) : Prop where
  mg_ : mg x = some (.ref (He.ga K x))
  fn : Fun K x x st (He.ga K x) fd
theorem At.kp {K : PySem.W.Frag} {mg : Str → Option Value} {x : Str} {st : Stmt} {fd : FuncData} (a : At K mg x st fd) : PySem.W.keepIn K (.ref (He.ga K x)) = true := a.fn.kp
theorem fun_ofm {K : PySem.W.Frag} {x q : Str} {st : Stmt} {f : Addr} {fd : FuncData} (F : FunD K x q (defArgs st) (defBody st) (defScope st) [] [] f fd) : Fun K x q st f fd := by
  obtain ⟨⟨oc, od, dV, kV, doc, pm, an, cdv, ct, osl, e, lk, hcd, hd, _⟩, kp⟩ := F
  rcases hd with ⟨_, hd⟩ | ⟨hd, _⟩
  · subst hd
    exact ⟨⟨oc, od, kV, doc, pm, an, cdv, ct, osl, e, lk, hcd⟩, kp⟩
  · exact absurd rfl hd
theorem atm_of {fa : List He.Fa} {fn : List He.DefD} {K : PySem.W.Frag} (c : He.SaysD fa fn K) {k i : Nat} {C m : Str} (hd : dm k i C m ∈ fn) : ∃ fd, Fun K m (C ++ "." ++ m) (mth k i) (He.ma K (He.ga K C) m) fd := by
  obtain ⟨fd, F⟩ := c.defs hd
  exact ⟨fd, fun_ofm F⟩
theorem at_of {fa : List He.Fa} {fn : List He.DefD} {K : PySem.W.Frag} {h : Heap} {mg : Str → Option Value} (X : K.In h) (G : h.Ns mainGlobals mg) (c : He.SaysD fa fn K) {i : Nat} {x : Str} (hd : dd i x ∈ fn) (hf : He.Fa.glo x ∈ fa) : ∃ fd, At K mg x (top i) fd := by
  obtain ⟨fd, F⟩ := c.defs hd
  exact ⟨fd, He.glo_ok X G (c.facts hf), fun_of F⟩
theorem code_of {K : PySem.W.Frag} {mg : Str → Option Value} {x : Str} {st : Stmt} {fd : FuncData} (a : At K mg x st fd) : fd.code = .ref (He.cT K (x, none)).1 := by
  obtain ⟨oc, od, kV, doc, pm, an, cdv, ct, osl, e, lk, hcd⟩ := a.fn.ex
  obtain ⟨c, hc⟩ := He.codeIn_ref hcd
  have e2 : fd.code = .ref c := by rw [e, ← hc]
  have e3 : He.codeOf K (x, none) = c := He.codeOf_eq (p := (x, none)) lk e2
  show fd.code = .ref (He.codeOf K (x, none))
  rw [e3, e2]
theorem tab_conv {base : Heap} {mg : Str → Option Value} {c P : Addr} (t : LamX.TabB base mg c P) : GxR.TabB base mg c P := ⟨t.code, t.bm, t.gP⟩

theorem txt_of {K : PySem.W.Frag} {h : Heap} {mg : Str → Option Value} (X : K.In h) (G : h.Ns mainGlobals mg) (c : He.SaysD faL fnL K) : Txt mg := by
  constructor
  all_goals exact He.free_ok X G (c.facts (by simp [faL]))
theorem consts_of {K : PySem.W.Frag} {h : Heap} {mg : Str → Option Value} (X : K.In h) (G : h.Ns mainGlobals mg) (c : He.SaysD faL fnL K) : Consts mg := by
  constructor
  all_goals exact He.int_ok X G (c.facts (by simp [faL]))
theorem triples_nil : TriplesOk (#[] : Array Value).toList := trivial
theorem facts {w : World} {K : PySem.W.Frag} {h : Heap} {mg : Str → Option Value} {f : Addr} (X : K.In h) (G : h.Ns mainGlobals mg) (hfa : mg ("law" : Str) = some (.ref f)) (c : He.SaysX faL fnL [] tfL exC w h K) :
    LamX.LawAtS PySem.Challenge.rw_tabgrow_k34_whole_in_whatever_order_take w K CX0 17 63 "_law_script" mg f h := by
  have cd := c.t.d
  have T := txt_of X G cd
  have N := consts_of X G cd
  obtain ⟨me, mf⟩ := He.ba c.more
  have ne0 := ne_of_ex me (r := ("_law_turned", none)) (by simp [lmL])
  have ne := ne_of_ex me (r := ("law", none)) (by simp [lmL])
  have nn01 := ne_of_ex2 me (r := ("_law_turned", none)) (q := ("law", none)) (by simp [lmL]) (by simp [lmL]) (by decide)
  have nn10 := ne_of_ex2 me (r := ("law", none)) (q := ("_law_turned", none)) (by simp [lmL]) (by simp [lmL]) (by decide)
  have hz : mg "zip" = none := He.free_ok X G (cd.facts (by simp [faL]))
  obtain ⟨d19, a19⟩ := at_of X G cd (i := 19) (x := "is_whole") (by simp [fnL]) (by simp [faL])
  have b19 := a19.fn.binds (ps := ["value", "low", "high"]) fun _ _ _ _ _ _ us hl => match us, hl with | [_, _, _], _ => rfl
  obtain ⟨d20, a20⟩ := at_of X G cd (i := 20) (x := "is_sign") (by simp [fnL]) (by simp [faL])
  have b20 := a20.fn.binds (ps := ["sign"]) fun _ _ _ _ _ _ us hl => match us, hl with | [_], _ => rfl
  obtain ⟨d21, a21⟩ := at_of X G cd (i := 21) (x := "is_text_of_signs") (by simp [fnL]) (by simp [faL])
  have b21 := a21.fn.binds (ps := ["value", "most"]) fun _ _ _ _ _ _ us hl => match us, hl with | [_, _], _ => rfl
  obtain ⟨d22, a22⟩ := at_of X G cd (i := 22) (x := "is_filled") (by simp [fnL]) (by simp [faL])
  have b22 := a22.fn.binds (ps := ["value", "most"]) fun _ _ _ _ _ _ us hl => match us, hl with | [_, _], _ => rfl
  obtain ⟨d23, a23⟩ := at_of X G cd (i := 23) (x := "is_row") (by simp [fnL]) (by simp [faL])
  have b23 := a23.fn.binds (ps := ["value"]) fun _ _ _ _ _ _ us hl => match us, hl with | [_], _ => rfl
  obtain ⟨d24, a24⟩ := at_of X G cd (i := 24) (x := "first_misfit") (by simp [fnL]) (by simp [faL])
  have b24 := a24.fn.binds (ps := ["rows"]) fun _ _ _ _ _ _ us hl => match us, hl with | [_], _ => rfl
  obtain ⟨d25, a25⟩ := at_of X G cd (i := 25) (x := "check_page") (by simp [fnL]) (by simp [faL])
  have b25 := a25.fn.binds (ps := ["page"]) fun _ _ _ _ _ _ us hl => match us, hl with | [_], _ => rfl
  obtain ⟨d26, a26⟩ := at_of X G cd (i := 26) (x := "check_style") (by simp [fnL]) (by simp [faL])
  have b26 := a26.fn.binds (ps := ["style"]) fun _ _ _ _ _ _ us hl => match us, hl with | [_], _ => rfl
  obtain ⟨d28, a28⟩ := at_of X G cd (i := 28) (x := "stretches") (by simp [fnL]) (by simp [faL])
  have b28 := a28.fn.binds (ps := ["page", "style"]) fun _ _ _ _ _ _ us hl => match us, hl with | [_, _], _ => rfl
  obtain ⟨d29, a29⟩ := at_of X G cd (i := 29) (x := "closed_runs") (by simp [fnL]) (by simp [faL])
  have b29 := a29.fn.binds (ps := ["page", "column"]) fun _ _ _ _ _ _ us hl => match us, hl with | [_, _], _ => rfl
  obtain ⟨d30, a30⟩ := at_of X G cd (i := 30) (x := "is_closed") (by simp [fnL]) (by simp [faL])
  have b30 := a30.fn.binds (ps := ["row", "column"]) fun _ _ _ _ _ _ us hl => match us, hl with | [_, _], _ => rfl
  obtain ⟨d31, a31⟩ := at_of X G cd (i := 31) (x := "described") (by simp [fnL]) (by simp [faL])
  have b31 := a31.fn.binds (ps := ["page", "style", "column", "begin", "end"]) fun _ _ _ _ _ _ us hl => match us, hl with | [_, _, _, _, _], _ => rfl
  obtain ⟨d32, a32⟩ := at_of X G cd (i := 32) (x := "stands_right") (by simp [fnL]) (by simp [faL])
  have b32 := a32.fn.binds (ps := ["cells"]) fun _ _ _ _ _ _ us hl => match us, hl with | [_], _ => rfl
  obtain ⟨d33, a33⟩ := at_of X G cd (i := 33) (x := "is_figures") (by simp [fnL]) (by simp [faL])
  have b33 := a33.fn.binds (ps := ["cell"]) fun _ _ _ _ _ _ us hl => match us, hl with | [_], _ => rfl
  obtain ⟨d35, a35⟩ := at_of X G cd (i := 35) (x := "laid") (by simp [fnL]) (by simp [faL])
  have b35 := a35.fn.binds (ps := ["page", "style"]) fun _ _ _ _ _ _ us hl => match us, hl with | [_, _], _ => rfl
  obtain ⟨d36, a36⟩ := at_of X G cd (i := 36) (x := "closed_cells") (by simp [fnL]) (by simp [faL])
  have b36 := a36.fn.binds (ps := ["page", "style"]) fun _ _ _ _ _ _ us hl => match us, hl with | [_, _], _ => rfl
  obtain ⟨d37, a37⟩ := at_of X G cd (i := 37) (x := "left_ends") (by simp [fnL]) (by simp [faL])
  have b37 := a37.fn.binds (ps := ["closed"]) fun _ _ _ _ _ _ us hl => match us, hl with | [_], _ => rfl
  obtain ⟨d38, a38⟩ := at_of X G cd (i := 38) (x := "begins_of") (by simp [fnL]) (by simp [faL])
  have b38 := a38.fn.binds (ps := ["row", "closed", "gap"]) fun _ _ _ _ _ _ us hl => match us, hl with | [_, _, _], _ => rfl
  obtain ⟨d40, a40⟩ := at_of X G cd (i := 40) (x := "written") (by simp [fnL]) (by simp [faL])
  have b40 := a40.fn.binds (ps := ["page"]) fun _ _ _ _ _ _ us hl => match us, hl with | [_], _ => rfl
  obtain ⟨d41, a41⟩ := at_of X G cd (i := 41) (x := "rows_of") (by simp [fnL]) (by simp [faL])
  have b41 := a41.fn.binds (ps := ["text"]) fun _ _ _ _ _ _ us hl => match us, hl with | [_], _ => rfl
  obtain ⟨d45, a45⟩ := at_of X G cd (i := 45) (x := "check_mark") (by simp [fnL]) (by simp [faL])
  have b45 := a45.fn.binds (ps := ["sign"]) fun _ _ _ _ _ _ us hl => match us, hl with | [_], _ => rfl
  obtain ⟨d46, a46⟩ := at_of X G cd (i := 46) (x := "marks_there") (by simp [fnL]) (by simp [faL])
  have b46 := a46.fn.binds (ps := ["many", "deeds"]) fun _ _ _ _ _ _ us hl => match us, hl with | [_, _], _ => rfl
  obtain ⟨d47, a47⟩ := at_of X G cd (i := 47) (x := "those_there") (by simp [fnL]) (by simp [faL])
  have b47 := a47.fn.binds (ps := ["order", "there"]) fun _ _ _ _ _ _ us hl => match us, hl with | [_, _], _ => rfl
  obtain ⟨d48, a48⟩ := at_of X G cd (i := 48) (x := "text_of") (by simp [fnL]) (by simp [faL])
  have b48 := a48.fn.binds (ps := ["signs", "marks"]) fun _ _ _ _ _ _ us hl => match us, hl with | [_, _], _ => rfl
  obtain ⟨d49, a49⟩ := at_of X G cd (i := 49) (x := "first_there") (by simp [fnL]) (by simp [faL])
  have b49 := a49.fn.binds (ps := ["order", "there", "spot"]) fun _ _ _ _ _ _ us hl => match us, hl with | [_, _, _], _ => rfl
  obtain ⟨d51, a51⟩ := at_of X G cd (i := 51) (x := "_law_begun") (by simp [fnL]) (by simp [faL])
  have b51 := a51.fn.binds (ps := ["_law_script"]) fun _ _ _ _ _ _ us hl => match us, hl with | [_], _ => rfl
  obtain ⟨d52, a52⟩ := at_of X G cd (i := 52) (x := "_law_take") (by simp [fnL]) (by simp [faL])
  have b52 := a52.fn.binds (ps := ["_law_box", "_law_many"]) fun _ _ _ _ _ _ us hl => match us, hl with | [_, _], _ => rfl
  obtain ⟨d53, a53⟩ := at_of X G cd (i := 53) (x := "_law_alike") (by simp [fnL]) (by simp [faL])
  have b53 := a53.fn.binds (ps := ["_law_found", "_law_due"]) fun _ _ _ _ _ _ us hl => match us, hl with | [_, _], _ => rfl
  obtain ⟨d54, a54⟩ := at_of X G cd (i := 54) (x := "_law_sign") (by simp [fnL]) (by simp [faL])
  have b54 := a54.fn.binds (ps := ["_law_box"]) fun _ _ _ _ _ _ us hl => match us, hl with | [_], _ => rfl
  obtain ⟨d55, a55⟩ := at_of X G cd (i := 55) (x := "_law_cell") (by simp [fnL]) (by simp [faL])
  have b55 := a55.fn.binds (ps := ["_law_box", "_law_sort"]) fun _ _ _ _ _ _ us hl => match us, hl with | [_, _], _ => rfl
  obtain ⟨d56, a56⟩ := at_of X G cd (i := 56) (x := "_law_row") (by simp [fnL]) (by simp [faL])
  have b56 := a56.fn.binds (ps := ["_law_box", "_law_sorts", "_law_many"]) fun _ _ _ _ _ _ us hl => match us, hl with | [_, _, _], _ => rfl
  obtain ⟨d57, a57⟩ := at_of X G cd (i := 57) (x := "_law_page") (by simp [fnL]) (by simp [faL])
  have b57 := a57.fn.binds (ps := ["_law_box", "_law_most"]) fun _ _ _ _ _ _ us hl => match us, hl with | [_, _], _ => rfl
  obtain ⟨d58, a58⟩ := at_of X G cd (i := 58) (x := "_law_style") (by simp [fnL]) (by simp [faL])
  have b58 := a58.fn.binds (ps := ["_law_box"]) fun _ _ _ _ _ _ us hl => match us, hl with | [_], _ => rfl
  obtain ⟨d59, a59⟩ := at_of X G cd (i := 59) (x := "_law_could") (by simp [fnL]) (by simp [faL])
  have b59 := a59.fn.binds (ps := ["_law_work"]) fun _ _ _ _ _ _ us hl => match us, hl with | [_], _ => rfl
  obtain ⟨d60, a60⟩ := at_of X G cd (i := 60) (x := "_law_order") (by simp [fnL]) (by simp [faL])
  have b60 := a60.fn.binds (ps := ["_law_box", "_law_counts"]) fun _ _ _ _ _ _ us hl => match us, hl with | [_, _], _ => rfl
  obtain ⟨d61, a61⟩ := at_of X G cd (i := 61) (x := "_law_done") (by simp [fnL]) (by simp [faL])
  have b61 := a61.fn.binds (ps := ["_law_table", "_law_hand", "_law_what"]) fun _ _ _ _ _ _ us hl => match us, hl with | [_, _, _], _ => rfl
  obtain ⟨d62, a62⟩ := at_of X G cd (i := 62) (x := "_law_turned") (by simp [fnL]) (by simp [faL])
  have b62 := a62.fn.binds (ps := ["_law_table", "_law_order_here", "_law_is_back"]) fun _ _ _ _ _ _ us hl => match us, hl with | [_, _, _], _ => rfl
  obtain ⟨d63, a63⟩ := at_of X G cd (i := 63) (x := "law") (by simp [fnL]) (by simp [faL])
  have b63 := a63.fn.binds (ps := ["_law_script"]) fun _ _ _ _ _ _ us hl => match us, hl with | [_], _ => rfl
  have hf : ∀ {x : He.Fa}, x ∈ faL → He.Fa.ok K x = true := fun h => cd.facts h
  have Xc : TabC K (He.ga K "Table") := ⟨He.cls_ok (hf (x := .cls "Table") (by simp [faL])), He.noat_ok (hf (x := .noat "Table" "style") (by simp [faL])), He.noat_ok (hf (x := .noat "Table" "signs") (by simp [faL])), He.noat_ok (hf (x := .noat "Table" "order") (by simp [faL])), He.noat_ok (hf (x := .noat "Table" "there") (by simp [faL])), He.noat_ok (hf (x := .noat "Table" "deeds") (by simp [faL])), He.noat_ok (hf (x := .noat "Table" "spots") (by simp [faL])), He.noat_ok (hf (x := .noat "Table" "undone") (by simp [faL]))⟩
  have e_ErB := He.exc_ok (hf (x := .exc "BadCell") (by simp [faL]))
  have ErB : ErrC K mg "BadCell" (He.ga K "BadCell") (He.ga K "GrowError") := ⟨He.glo_ok X G (hf (x := .glo "BadCell") (by simp [faL])), e_ErB.1, e_ErB.2.1, e_ErB.2.2.1, e_ErB.2.2.2, He.exm_ok (hf (x := .exm "BadCell" "GrowError" true) (by simp [faL]))⟩
  have e_Er := He.exc_ok (hf (x := .exc "TooMuch") (by simp [faL]))
  have Er : ErrC K mg "TooMuch" (He.ga K "TooMuch") (He.ga K "GrowError") := ⟨He.glo_ok X G (hf (x := .glo "TooMuch") (by simp [faL])), e_Er.1, e_Er.2.1, e_Er.2.2.1, e_Er.2.2.2, He.exm_ok (hf (x := .exm "TooMuch" "GrowError" true) (by simp [faL]))⟩
  have eU := He.exm_ok (hf (x := .exm "TooMuch" "GrowError" true) (by simp [faL]))
  have eUB := He.exm_ok (hf (x := .exm "BadCell" "GrowError" true) (by simp [faL]))
  have eG := He.glo_ok X G (hf (x := .glo "GrowError") (by simp [faL]))
  have eT : ∃ t, mg "TAB" = some (.str tabS t) := He.str_ok X G (hf (x := .str "TAB" "\t") (by simp [faL]))
  have eL : ∃ t, mg "LINE_END" = some (.str lineS t) := He.str_ok X G (hf (x := .str "LINE_END" "\n") (by simp [faL]))
  have eM : ∃ t, mg "MOST_HANDS" = some (.int 4 t) := He.int_ok X G (hf (x := .int "MOST_HANDS" 4) (by simp [faL]))
  have gT : mg "Table" = some (.ref (He.ga K "Table")) := He.glo_ok X G (hf (x := .glo "Table") (by simp [faL]))
  obtain ⟨d_Table_init, a_Table_init⟩ := atm_of cd (k := 44) (i := 0) (C := "Table") (m := "__init__") (by simp [fnL])
  have b_Table_init := a_Table_init.binds (ps := ["self", "page", "style", "hands"]) fun _ _ _ _ _ _ us hl => match us, hl with | [_, _, _, _], _ => rfl
  have mk_Table : Mk K (He.ga K "Table") (He.ma K (He.ga K "Table") "__init__") := He.mkr_ok (hf (x := .mkr "Table") (by simp [faL]))
  obtain ⟨d_Table_press, a_Table_press⟩ := atm_of cd (k := 44) (i := 1) (C := "Table") (m := "press") (by simp [fnL])
  have b_Table_press := a_Table_press.binds (ps := ["self", "hand", "sign"]) fun _ _ _ _ _ _ us hl => match us, hl with | [_, _, _], _ => rfl
  have m_Table_press : Meth K (He.ga K "Table") "press" (He.ma K (He.ga K "Table") "press") := He.meth_ok (hf (x := .meth "Table" "press") (by simp [faL]))
  obtain ⟨d_Table_rub, a_Table_rub⟩ := atm_of cd (k := 44) (i := 2) (C := "Table") (m := "rub") (by simp [fnL])
  have b_Table_rub := a_Table_rub.binds (ps := ["self", "hand"]) fun _ _ _ _ _ _ us hl => match us, hl with | [_, _], _ => rfl
  have m_Table_rub : Meth K (He.ga K "Table") "rub" (He.ma K (He.ga K "Table") "rub") := He.meth_ok (hf (x := .meth "Table" "rub") (by simp [faL]))
  obtain ⟨d_Table_back, a_Table_back⟩ := atm_of cd (k := 44) (i := 3) (C := "Table") (m := "back") (by simp [fnL])
  have b_Table_back := a_Table_back.binds (ps := ["self", "hand"]) fun _ _ _ _ _ _ us hl => match us, hl with | [_, _], _ => rfl
  have m_Table_back : Meth K (He.ga K "Table") "back" (He.ma K (He.ga K "Table") "back") := He.meth_ok (hf (x := .meth "Table" "back") (by simp [faL]))
  obtain ⟨d_Table_again, a_Table_again⟩ := atm_of cd (k := 44) (i := 4) (C := "Table") (m := "again") (by simp [fnL])
  have b_Table_again := a_Table_again.binds (ps := ["self", "hand"]) fun _ _ _ _ _ _ us hl => match us, hl with | [_, _], _ => rfl
  have m_Table_again : Meth K (He.ga K "Table") "again" (He.ma K (He.ga K "Table") "again") := He.meth_ok (hf (x := .meth "Table" "again") (by simp [faL]))
  obtain ⟨d_Table_left, a_Table_left⟩ := atm_of cd (k := 44) (i := 5) (C := "Table") (m := "left") (by simp [fnL])
  have b_Table_left := a_Table_left.binds (ps := ["self", "hand"]) fun _ _ _ _ _ _ us hl => match us, hl with | [_, _], _ => rfl
  have m_Table_left : Meth K (He.ga K "Table") "left" (He.ma K (He.ga K "Table") "left") := He.meth_ok (hf (x := .meth "Table" "left") (by simp [faL]))
  obtain ⟨d_Table_right, a_Table_right⟩ := atm_of cd (k := 44) (i := 6) (C := "Table") (m := "right") (by simp [fnL])
  have b_Table_right := a_Table_right.binds (ps := ["self", "hand"]) fun _ _ _ _ _ _ us hl => match us, hl with | [_, _], _ => rfl
  have m_Table_right : Meth K (He.ga K "Table") "right" (He.ma K (He.ga K "Table") "right") := He.meth_ok (hf (x := .meth "Table" "right") (by simp [faL]))
  obtain ⟨d_Table_page, a_Table_page⟩ := atm_of cd (k := 44) (i := 8) (C := "Table") (m := "page") (by simp [fnL])
  have b_Table_page := a_Table_page.binds (ps := ["self"]) fun _ _ _ _ _ _ us hl => match us, hl with | [_], _ => rfl
  have m_Table_page : Meth K (He.ga K "Table") "page" (He.ma K (He.ga K "Table") "page") := He.meth_ok (hf (x := .meth "Table" "page") (by simp [faL]))
  obtain ⟨d_Table_begins, a_Table_begins⟩ := atm_of cd (k := 44) (i := 9) (C := "Table") (m := "begins") (by simp [fnL])
  have b_Table_begins := a_Table_begins.binds (ps := ["self"]) fun _ _ _ _ _ _ us hl => match us, hl with | [_], _ => rfl
  have m_Table_begins : Meth K (He.ga K "Table") "begins" (He.ma K (He.ga K "Table") "begins") := He.meth_ok (hf (x := .meth "Table" "begins") (by simp [faL]))
  obtain ⟨d_Table_told, a_Table_told⟩ := atm_of cd (k := 44) (i := 10) (C := "Table") (m := "told") (by simp [fnL])
  have b_Table_told := a_Table_told.binds (ps := ["self"]) fun _ _ _ _ _ _ us hl => match us, hl with | [_], _ => rfl
  have m_Table_told : Meth K (He.ga K "Table") "told" (He.ma K (He.ga K "Table") "told") := He.meth_ok (hf (x := .meth "Table" "told") (by simp [faL]))
  obtain ⟨d_Table_check_hand, a_Table_check_hand⟩ := atm_of cd (k := 44) (i := 11) (C := "Table") (m := "check_hand") (by simp [fnL])
  have b_Table_check_hand := a_Table_check_hand.binds (ps := ["self", "hand"]) fun _ _ _ _ _ _ us hl => match us, hl with | [_, _], _ => rfl
  have m_Table_check_hand : Meth K (He.ga K "Table") "check_hand" (He.ma K (He.ga K "Table") "check_hand") := He.meth_ok (hf (x := .meth "Table" "check_hand") (by simp [faL]))
  obtain ⟨d_Table_present, a_Table_present⟩ := atm_of cd (k := 44) (i := 12) (C := "Table") (m := "present") (by simp [fnL])
  have b_Table_present := a_Table_present.binds (ps := ["self"]) fun _ _ _ _ _ _ us hl => match us, hl with | [_], _ => rfl
  have m_Table_present : Meth K (He.ga K "Table") "present" (He.ma K (He.ga K "Table") "present") := He.meth_ok (hf (x := .meth "Table" "present") (by simp [faL]))
  obtain ⟨d_Table_near, a_Table_near⟩ := atm_of cd (k := 44) (i := 13) (C := "Table") (m := "near") (by simp [fnL])
  have b_Table_near := a_Table_near.binds (ps := ["self", "hand", "by"]) fun _ _ _ _ _ _ us hl => match us, hl with | [_, _, _], _ => rfl
  have m_Table_near : Meth K (He.ga K "Table") "near" (He.ma K (He.ga K "Table") "near") := He.meth_ok (hf (x := .meth "Table" "near") (by simp [faL]))
  obtain ⟨d_Table_go, a_Table_go⟩ := atm_of cd (k := 44) (i := 14) (C := "Table") (m := "go") (by simp [fnL])
  have b_Table_go := a_Table_go.binds (ps := ["self", "hand", "by"]) fun _ _ _ _ _ _ us hl => match us, hl with | [_, _, _], _ => rfl
  have m_Table_go : Meth K (He.ga K "Table") "go" (He.ma K (He.ga K "Table") "go") := He.meth_ok (hf (x := .meth "Table" "go") (by simp [faL]))
  obtain ⟨d_Table_turn, a_Table_turn⟩ := atm_of cd (k := 44) (i := 15) (C := "Table") (m := "turn") (by simp [fnL])
  have b_Table_turn := a_Table_turn.binds (ps := ["self", "number", "stands"]) fun _ _ _ _ _ _ us hl => match us, hl with | [_, _, _], _ => rfl
  have m_Table_turn : Meth K (He.ga K "Table") "turn" (He.ma K (He.ga K "Table") "turn") := He.meth_ok (hf (x := .meth "Table" "turn") (by simp [faL]))
  obtain ⟨d_Table_settle, a_Table_settle⟩ := atm_of cd (k := 44) (i := 16) (C := "Table") (m := "settle") (by simp [fnL])
  have b_Table_settle := a_Table_settle.binds (ps := ["self", "signs", "order", "deeds"]) fun _ _ _ _ _ _ us hl => match us, hl with | [_, _, _, _], _ => rfl
  have m_Table_settle : Meth K (He.ga K "Table") "settle" (He.ma K (He.ga K "Table") "settle") := He.meth_ok (hf (x := .meth "Table" "settle") (by simp [faL]))
  have e := hfa.symm.trans a63.mg_
  cases e
  refine ⟨d63, tfL.map (He.cT K), spLaw K (tfB.map (He.cT K)) (He.cT K ("_law_turned", none)).2 (He.cT K ("law", none)).2, fun p hp => ?_, fun p hp => ?_, fun p hp => ?_, fun s u => ?_, fun H a ns hl _ hT hS => ⟨a, ns, rfl, fun p hp => ⟨_, hT p (subL hp), triples_nil⟩, LamX.TabS.nil (hT _ (memL (r := ("_law_turned", none)) (by simp [lmL]))), LamX.TabS.nil (hT _ (memL (r := ("law", none)) (by simp [lmL]))), hS, hl, fun _ => rfl⟩, fun base KB _ TB => ?_⟩
  · obtain ⟨p', hp', rfl⟩ := List.mem_map.mp hp
    exact c.empty p' hp'
  · obtain ⟨p', hp', rfl⟩ := List.mem_map.mp hp
    exact c.out p' hp'
  · obtain ⟨p', hp', rfl⟩ := List.mem_map.mp hp
    exact PySem.W.codeHd_of_K X (c.hd p' hp')
  · obtain ⟨oc, od, kV, doc, pm, an, cdv, ct, osl, e, _, _⟩ := a63.fn.ex
    rw [e]
    exact .of_eq rfl
  have m21 : He.cT K ("is_text_of_signs", none) ∈ tfB.map (He.cT K) := List.mem_map.mpr ⟨_, by simp [tfB], rfl⟩
  have t21 := tab_conv (TB _ (subL m21))
  have m23 : He.cT K ("is_row", none) ∈ tfB.map (He.cT K) := List.mem_map.mpr ⟨_, by simp [tfB], rfl⟩
  have t23 := tab_conv (TB _ (subL m23))
  have m28 : He.cT K ("stretches", none) ∈ tfB.map (He.cT K) := List.mem_map.mpr ⟨_, by simp [tfB], rfl⟩
  have t28 := tab_conv (TB _ (subL m28))
  have m31 : He.cT K ("described", none) ∈ tfB.map (He.cT K) := List.mem_map.mpr ⟨_, by simp [tfB], rfl⟩
  have t31 := tab_conv (TB _ (subL m31))
  have m32 : He.cT K ("stands_right", none) ∈ tfB.map (He.cT K) := List.mem_map.mpr ⟨_, by simp [tfB], rfl⟩
  have t32 := tab_conv (TB _ (subL m32))
  have g51 := ok_begun (P := PySem.Challenge.rw_tabgrow_k34_whole_in_whatever_order_take.prog) (w := w) (base := base) (mg := mg) T a51.fn 
  have g52 := ok_take (P := PySem.Challenge.rw_tabgrow_k34_whole_in_whatever_order_take.prog) (w := w) (base := base) (mg := mg)  a52.fn 
  have g54 := ok_sign (P := PySem.Challenge.rw_tabgrow_k34_whole_in_whatever_order_take.prog) (w := w) (base := base) (mg := mg)  a54.fn g52 a52.kp b52 a52.mg_
  have g58 := ok_lstyle (P := PySem.Challenge.rw_tabgrow_k34_whole_in_whatever_order_take.prog) (w := w) (base := base) (mg := mg)  a58.fn g52 a52.kp b52 a52.mg_
  have g55 := ok_cell (P := PySem.Challenge.rw_tabgrow_k34_whole_in_whatever_order_take.prog) (w := w) (base := base) (mg := mg) T a55.fn g52 a52.kp b52 a52.mg_ g54 a54.kp b54 a54.mg_
  have g56 := ok_lrow (P := PySem.Challenge.rw_tabgrow_k34_whole_in_whatever_order_take.prog) (w := w) (base := base) (mg := mg) T a56.fn g55 a55.kp b55 a55.mg_
  have g57 := ok_lpage (P := PySem.Challenge.rw_tabgrow_k34_whole_in_whatever_order_take.prog) (w := w) (base := base) (mg := mg) T a57.fn g52 a52.kp b52 a52.mg_ g56 a56.kp b56 a56.mg_
  have g59 := ok_could (P := PySem.Challenge.rw_tabgrow_k34_whole_in_whatever_order_take.prog) (w := w) (base := base) (mg := mg) (kl := 14) eG a59.fn 
  have g20 := ok_sg (P := PySem.Challenge.rw_tabgrow_k34_whole_in_whatever_order_take.prog) (w := w) (base := base) (mg := mg) T N a20.fn 
  have g21 := ok_text (P := PySem.Challenge.rw_tabgrow_k34_whole_in_whatever_order_take.prog) (w := w) (base := base) (mg := mg) (cs := tfB.map (He.cT K)) T a21.fn (code_of a21) t21 m21 g20 a20.kp b20 a20.mg_
  have g23 := ok_isrow (P := PySem.Challenge.rw_tabgrow_k34_whole_in_whatever_order_take.prog) (w := w) (base := base) (mg := mg) T N a23.fn (code_of a23) t23 m23 g21 a21.kp b21 a21.mg_
  have g24 := ok_misfit (P := PySem.Challenge.rw_tabgrow_k34_whole_in_whatever_order_take.prog) (w := w) (base := base) (mg := mg) T N a24.fn g23 a23.kp b23 a23.mg_
  have g25 := ok_check (P := PySem.Challenge.rw_tabgrow_k34_whole_in_whatever_order_take.prog) (w := w) (base := base) (mg := mg) T a25.fn g24 a24.kp b24 a24.mg_
  have g19 := ok_whole (P := PySem.Challenge.rw_tabgrow_k34_whole_in_whatever_order_take.prog) (w := w) (base := base) (mg := mg) T a19.fn 
  have g26 := ok_cstyle (P := PySem.Challenge.rw_tabgrow_k34_whole_in_whatever_order_take.prog) (w := w) (base := base) (mg := mg) T N a26.fn g19 a19.kp b19 a19.mg_
  have g30 := ok_closed (P := PySem.Challenge.rw_tabgrow_k34_whole_in_whatever_order_take.prog) (w := w) (base := base) (mg := mg) T a30.fn 
  have g29 := ok_runs (P := PySem.Challenge.rw_tabgrow_k34_whole_in_whatever_order_take.prog) (w := w) (base := base) (mg := mg) (cs := tfB.map (He.cT K)) T a29.fn g30 a30.kp b30 a30.mg_
  have g33 := ok_isfig (P := PySem.Challenge.rw_tabgrow_k34_whole_in_whatever_order_take.prog) (w := w) (base := base) (mg := mg)  a33.fn 
  have g32 := ok_right (P := PySem.Challenge.rw_tabgrow_k34_whole_in_whatever_order_take.prog) (w := w) (base := base) (mg := mg) T a32.fn (code_of a32) t32 m32 g33 a33.kp b33 a33.mg_
  have g31 := ok_desc (P := PySem.Challenge.rw_tabgrow_k34_whole_in_whatever_order_take.prog) (w := w) (base := base) (mg := mg) T a31.fn (code_of a31) t31 m31 g32 a32.kp b32 a32.mg_
  have g28 := ok_str (P := PySem.Challenge.rw_tabgrow_k34_whole_in_whatever_order_take.prog) (w := w) (base := base) (mg := mg) T a28.fn (code_of a28) t28 m28 g25 a25.kp b25 a25.mg_ g26 a26.kp b26 a26.mg_ g29 a29.kp b29 a29.mg_ g31 a31.kp b31 a31.mg_
  have g36 := ok_cc (P := PySem.Challenge.rw_tabgrow_k34_whole_in_whatever_order_take.prog) (w := w) (base := base) (mg := mg) T a36.fn g28 a28.kp b28 a28.mg_
  have g37 := ok_le (P := PySem.Challenge.rw_tabgrow_k34_whole_in_whatever_order_take.prog) (w := w) (base := base) (mg := mg)  a37.fn 
  have g38 := ok_bo (P := PySem.Challenge.rw_tabgrow_k34_whole_in_whatever_order_take.prog) (w := w) (base := base) (mg := mg) T a38.fn g37 a37.kp b37 a37.mg_
  have g35 := ok_laid (P := PySem.Challenge.rw_tabgrow_k34_whole_in_whatever_order_take.prog) (w := w) (base := base) (mg := mg) hz a35.fn g36 a36.kp b36 a36.mg_ g38 a38.kp b38 a38.mg_
  have g40 := ok_writ (P := PySem.Challenge.rw_tabgrow_k34_whole_in_whatever_order_take.prog) (w := w) (base := base) (mg := mg) eT eL a40.fn g25 a25.kp b25 a25.mg_
  have g41 := ok_rowsof (P := PySem.Challenge.rw_tabgrow_k34_whole_in_whatever_order_take.prog) (w := w) (base := base) (mg := mg) (cs := tfB.map (He.cT K)) T eT eL a41.fn 
  have g19_B := ok_wholeB (P := PySem.Challenge.rw_tabgrow_k34_whole_in_whatever_order_take.prog) (w := w) (base := base) (mg := mg) T a19.fn 
  have g21_3 := ok_text3 (P := PySem.Challenge.rw_tabgrow_k34_whole_in_whatever_order_take.prog) (w := w) (base := base) (mg := mg) (cs := tfB.map (He.cT K)) T a21.fn (code_of a21) t21 m21 g20 a20.kp b20 a20.mg_
  have g23_3 := ok_row3 (P := PySem.Challenge.rw_tabgrow_k34_whole_in_whatever_order_take.prog) (w := w) (base := base) (mg := mg) T N a23.fn (code_of a23) t23 m23 g21_3 a21.kp b21 a21.mg_
  have g24_B := ok_misB (P := PySem.Challenge.rw_tabgrow_k34_whole_in_whatever_order_take.prog) (w := w) (base := base) (mg := mg) T N a24.fn g23_3 a23.kp b23 a23.mg_
  have g46 := ok_marks (P := PySem.Challenge.rw_tabgrow_k34_whole_in_whatever_order_take.prog) (w := w) (base := base) (mg := mg)  a46.fn 
  have g47 := ok_those (P := PySem.Challenge.rw_tabgrow_k34_whole_in_whatever_order_take.prog) (w := w) (base := base) (mg := mg)  a47.fn 
  have g48 := ok_textof (P := PySem.Challenge.rw_tabgrow_k34_whole_in_whatever_order_take.prog) (w := w) (base := base) (mg := mg)  a48.fn 
  have g49 := ok_first (P := PySem.Challenge.rw_tabgrow_k34_whole_in_whatever_order_take.prog) (w := w) (base := base) (mg := mg)  a49.fn 
  have g22 := ok_filled (P := PySem.Challenge.rw_tabgrow_k34_whole_in_whatever_order_take.prog) (w := w) (base := base) (mg := mg)  a22.fn g21 a21.kp b21 a21.mg_
  have g45 := ok_cmark (P := PySem.Challenge.rw_tabgrow_k34_whole_in_whatever_order_take.prog) (w := w) (base := base) (mg := mg) eT eL a45.fn g22 a22.kp b22 a22.mg_
  have t_check_hand := ok_chand (P := PySem.Challenge.rw_tabgrow_k34_whole_in_whatever_order_take.prog) (w := w) (base := base) (mg := mg) T Xc a_Table_check_hand g19_B a19.kp b19 a19.mg_
  have t_present := ok_present (P := PySem.Challenge.rw_tabgrow_k34_whole_in_whatever_order_take.prog) (w := w) (base := base) (mg := mg) Xc a_Table_present g47 a47.kp b47 a47.mg_
  have t_near := ok_near (P := PySem.Challenge.rw_tabgrow_k34_whole_in_whatever_order_take.prog) (w := w) (base := base) (mg := mg) T Xc a_Table_near m_Table_present t_present b_Table_present
  have t_go := ok_go (P := PySem.Challenge.rw_tabgrow_k34_whole_in_whatever_order_take.prog) (w := w) (base := base) (mg := mg) (cs := tfB.map (He.cT K)) Xc a_Table_go m_Table_near t_near b_Table_near
  have t_right := ok_tright (P := PySem.Challenge.rw_tabgrow_k34_whole_in_whatever_order_take.prog) (w := w) (base := base) (mg := mg) (cs := tfB.map (He.cT K)) Xc a_Table_right m_Table_check_hand t_check_hand b_Table_check_hand m_Table_go t_go b_Table_go
  have t_left := ok_tleft (P := PySem.Challenge.rw_tabgrow_k34_whole_in_whatever_order_take.prog) (w := w) (base := base) (mg := mg) (cs := tfB.map (He.cT K)) Xc a_Table_left m_Table_check_hand t_check_hand b_Table_check_hand m_Table_go t_go b_Table_go
  have t_page := ok_tpage (P := PySem.Challenge.rw_tabgrow_k34_whole_in_whatever_order_take.prog) (w := w) (base := base) (mg := mg) (cs := tfB.map (He.cT K)) Xc a_Table_page m_Table_present t_present b_Table_present g48 a48.kp b48 a48.mg_ g41 a41.kp b41 a41.mg_
  have t_told := ok_ttold (P := PySem.Challenge.rw_tabgrow_k34_whole_in_whatever_order_take.prog) (w := w) (base := base) (mg := mg) Xc a_Table_told
  have t_begins := ok_tbegins (P := PySem.Challenge.rw_tabgrow_k34_whole_in_whatever_order_take.prog) (w := w) (base := base) (mg := mg) (cs := tfB.map (He.cT K)) Xc a_Table_begins m_Table_page t_page b_Table_page g35 a35.kp b35 a35.mg_
  have t_settle := ok_settle (P := PySem.Challenge.rw_tabgrow_k34_whole_in_whatever_order_take.prog) (w := w) (base := base) (mg := mg) (cs := tfB.map (He.cT K)) T Er Xc a_Table_settle g46 a46.kp b46 a46.mg_ g47 a47.kp b47 a47.mg_ g48 a48.kp b48 a48.mg_ g41 a41.kp b41 a41.mg_ (fn_or g24 g24_B) a24.kp b24 a24.mg_ g49 a49.kp b49 a49.mg_
  have t_turn := ok_turn (P := PySem.Challenge.rw_tabgrow_k34_whole_in_whatever_order_take.prog) (w := w) (base := base) (mg := mg) (cs := tfB.map (He.cT K)) T Xc a_Table_turn m_Table_settle t_settle b_Table_settle
  have t_back := ok_tback (P := PySem.Challenge.rw_tabgrow_k34_whole_in_whatever_order_take.prog) (w := w) (base := base) (mg := mg) (cs := tfB.map (He.cT K)) T Xc a_Table_back m_Table_check_hand t_check_hand b_Table_check_hand m_Table_turn t_turn b_Table_turn
  have t_again := ok_tagain (P := PySem.Challenge.rw_tabgrow_k34_whole_in_whatever_order_take.prog) (w := w) (base := base) (mg := mg) (cs := tfB.map (He.cT K)) T Xc a_Table_again m_Table_check_hand t_check_hand b_Table_check_hand m_Table_turn t_turn b_Table_turn
  have t_rub := ok_trub (P := PySem.Challenge.rw_tabgrow_k34_whole_in_whatever_order_take.prog) (w := w) (base := base) (mg := mg) (cs := tfB.map (He.cT K)) T ErB Xc a_Table_rub m_Table_check_hand t_check_hand b_Table_check_hand m_Table_near t_near b_Table_near m_Table_settle t_settle b_Table_settle
  have t_press := ok_pressT (P := PySem.Challenge.rw_tabgrow_k34_whole_in_whatever_order_take.prog) (w := w) (base := base) (mg := mg) (cs := tfB.map (He.cT K)) T Xc a_Table_press m_Table_check_hand t_check_hand b_Table_check_hand g45 a45.kp b45 a45.mg_ m_Table_settle t_settle b_Table_settle
  have t_init := ok_tinit (P := PySem.Challenge.rw_tabgrow_k34_whole_in_whatever_order_take.prog) (w := w) (base := base) (mg := mg) (cs := tfB.map (He.cT K)) T Xc eM a_Table_init g40 a40.kp b40 a40.mg_ g26 a26.kp b26 a26.mg_ g19_B a19.kp b19 a19.mg_
  have g60 := ok_order (P := PySem.Challenge.rw_tabgrow_k34_whole_in_whatever_order_take.prog) (w := w) (base := base) (mg := mg) T a60.fn g52 a52.kp b52 a52.mg_
  have g61 := ok_done (P := PySem.Challenge.rw_tabgrow_k34_whole_in_whatever_order_take.prog) (w := w) (base := base) (mg := mg) (cs := tfB.map (He.cT K)) Xc a61.fn m_Table_press t_press b_Table_press m_Table_rub t_rub b_Table_rub m_Table_left t_left b_Table_left m_Table_right t_right b_Table_right
  have g62 := ok_lturn (P := PySem.Challenge.rw_tabgrow_k34_whole_in_whatever_order_take.prog) (w := w) (base := base) (mg := mg) (cs := tfB.map (He.cT K)) T Xc ne0 a62.fn (code_of a62) (TB _ (memL (r := ("_law_turned", none)) (by simp [lmL]))) eU g59 a59.kp b59 a59.mg_ m_Table_told t_told b_Table_told m_Table_back t_back b_Table_back m_Table_again t_again b_Table_again
  exact ok_law T Xc ne0 ne nn10 a63.fn (code_of a63) (TB _ (memL (r := ("law", none)) (by simp [lmL]))) eU eUB g51 a51.kp b51 a51.mg_ g52 a52.kp b52 a52.mg_ g57 a57.kp b57 a57.mg_ g58 a58.kp b58 a58.mg_ g54 a54.kp b54 a54.mg_ g60 a60.kp b60 a60.mg_ g62 a62.kp b62 a62.mg_ g59 a59.kp b59 a59.mg_ g61 a61.kp b61 a61.mg_ mk_Table b_Table_init gT t_init m_Table_page b_Table_page t_page m_Table_begins b_Table_begins t_begins m_Table_told b_Table_told t_told
end TG


open PySem PySem.W PySem.Calls PyProof.Rows
theorem PySem.Challenge.cw_tabgrow_k34_whole_in_whatever_order_take_holds : PySem.Challenge.rw_tabgrow_k34_whole_in_whatever_order_take.Holds := by
  w_on; o_law
  refine HandSHeadRun.head_any (r := OpenLaw.row PySem.Challenge.rw_tabgrow_k34_whole_in_whatever_order_take) (q := view (OpenLaw.row PySem.Challenge.rw_tabgrow_k34_whole_in_whatever_order_take).prog [63]) (H := TG.hdHk) (ob := TG.hdOb) (M := 9000) (loose := TG.looseL) (d := HandSHeadRun.topDef (OpenLaw.row PySem.Challenge.rw_tabgrow_k34_whole_in_whatever_order_take).prog 63) (kwd := []) TG.hdOb_eq
    (by kernel_rfl) (fun s => by kernel_rfl) TG.hdRun (by kernel_rfl) (by kernel_rfl) (by kernel_rfl) (by rfl) (by first | assumption | decide +kernel) (by decide +kernel) ⟨rfl, rfl, rfl, rfl, rfl, by decide +kernel⟩ ?hw ?hc
  case hw => w_witness2
  case hc =>
    refine LamX.walk_ofTsE (l := PySem.Challenge.rw_tabgrow_k34_whole_in_whatever_order_take) (n := 63) (k := 17) (x := "_law_script") (CX := fun _ => L2.CX0) rfl (by decide) (by kernel_rfl) ⟨rfl, by decide, by decide⟩ ?F (fun _ _ _ _ _ z => z)
    intro w mg fa h Y G hmg0
    obtain ⟨K, KX, c⟩ := Y
    have hmg : mg ("law" : PySem.Str) = some (.ref fa) := by
      have e : (HandSHeadRun.topDef (OpenLaw.row PySem.Challenge.rw_tabgrow_k34_whole_in_whatever_order_take).prog 63).name = ("law" : PySem.Str) := by kernel_rfl
      rw [← e]
      exact hmg0
    exact ⟨K, KX, TG.facts KX G hmg c⟩

