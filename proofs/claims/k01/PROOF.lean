import PyProof.Rows.All
import Wide.All
import OpenK.AllK
import Wide.FinOn
import HandS.ForMost
import HandS.Exc
import HandS.GenList
import HandS.AnyAll
import HandS.IsInst
import HandS.StrMore
import HandS.Flow
import HandS.TupAny
import HandS.EndTab
import HandS.Walk
import HandS.Lambda
import HandS.Codes
import KE.KIntText
import KE.KxText
import KE.KStateDown
import HandS.Head0
import HandS.Head1
import HandS.Head2
import HandS.HeadEnd
import HandS.HeadHook1
import HandS.HeadHook2
import HandS.HeadHook3
import HandS.HeadHook4
import HandS.HeadWalk
import PyProof.WalkInts
import PyProof.ZipIter
import HandS.Zip
import HandS.Nested
import HandS.GenOver
import KE.KLam
import HandS.Replace
import HandS.ReplaceLit
import HandS.ReplaceDef
import PyProof.ToksMono
import HandS.ReplaceList
import HandS.ExcSuper
import HandS.ExcInit
import KE.KExcSuper
import KE.KSuper
import KE.KSuperObj
import HandS.FStr
import HandS.WordsExc
import HandS.ExcOwn
import PySem.Challenge.RW_tabgrow_k01_pages_refused
import KE.GoesEnum
import HandS.Iter
import HandS.Wide
import HandS.TupMul
import KE.GoesComp
import HandS.TryMany
import HandS.Dict
import HandS.Small
import HandS.Conv
import HandS.More
import HandS.Deep
import HandS.Style
import HandS.ExcIs
import HandS.ExcField
import KE.KExcIs
import HandS.TryOnly
import KE.KDictZip
import KE.KTurns
set_option Elab.async false
set_option linter.all false
set_option maxRecDepth 1000000
set_option maxHeartbeats 20000000
namespace Gx
open PySem PySem.Spec PyProof.Rows L2 GenW
section
variable {X : Cx} {pins : List (Addr × Obj)} {σ : L2.St} {H : Hp} {s : Shared} {A : Around} {sc : Scope} {x : Str} {code : Value} {fp : List Addr}
end
end Gx
namespace Gx
open PySem PySem.Spec PyProof.Rows L2 GenW
section
variable {X : Cx} {pins : List (Addr × Obj)} {σ : L2.St} {H : Hp} {s : Shared} {sc : Scope} {x : Str}
end
end Gx
namespace Gx
open PySem PySem.Spec PyProof.Rows L2 GenW
section
variable {X : Cx} {pins : List (Addr × Obj)} {σ : L2.St} {H : Hp} {s : Shared} {sc : Scope} {x : Str}
end
end Gx
namespace Gx
open PySem PySem.Spec PyProof.Rows L2 GenW
section
variable {X : Cx} {pins : List (Addr × Obj)} {σ : L2.St} {H : Hp} {s : Shared} {sc : Scope} {x : Str}
end
end Gx
namespace Gx
open PySem PySem.Spec PyProof.Rows L2 GenW
section
variable {X : Cx} {pins : List (Addr × Obj)} {σ : L2.St} {H : Hp} {s : Shared} {sc : Scope} {x : Str}
def MaxRel (ys : List V) (acc : Array Value) : Prop :=
  ∃ ns : List Int, ys = ns.map V.int ∧ ((ns = [] ∧ acc = #[]) ∨ ∃ b t, acc = #[.int b t, .int b t] ∧ b ∈ ns ∧ ∀ z ∈ ns, z ≤ b)
def NsMax (Qm : Int → Hp → Prop) : List V → Hp → Prop := fun ys H => ∃ ns : List Int, ys = ns.map V.int ∧ ns ≠ [] ∧ ∀ b, b ∈ ns → (∀ z ∈ ns, z ≤ b) → Qm b H
theorem map_int_inj {a b : List Int} (h : a.map V.int = b.map V.int) : a = b := by
  induction a generalizing b with
  | nil => cases b with
    | nil => rfl
    | cons _ _ => cases h
  | cons x a ih => cases b with
    | nil => cases h
    | cons y b =>
      rw [List.map_cons, List.map_cons] at h
      injection h with h1 h2
      injection h1 with h1
      rw [h1, ih h2]
theorem MaxRel.first {i : Int} {t : Tok} {ys : List V} (h : MaxRel ys #[]) : MaxRel (ys ++ [.int i]) #[.int i t, .int i t] := by
  obtain ⟨ns, rfl, h | ⟨b, u, e, _⟩⟩ := h
  · rw [h.1]
    exact ⟨[i], rfl, .inr ⟨i, t, rfl, by simp, by simp⟩⟩
  · have := congrArg Array.size e
    simp at this
theorem MaxRel.more {i b : Int} {t u : Tok} {ys : List V} (h : MaxRel ys #[.int b u, .int b u]) : MaxRel (ys ++ [.int i]) (if decide (i > b) = true then #[.int i t, .int i t] else #[.int b u, .int b u]) := by
  obtain ⟨ns, rfl, h | ⟨b', u', e, hb, hm⟩⟩ := h
  · have := congrArg Array.size h.2
    simp at this
  · have e' : b = b' := by
      have := congrArg (fun a : Array Value => a[0]?) e
      simp at this
      exact this.1
    subst e'
    refine ⟨ns ++ [i], by simp, .inr ?_⟩
    by_cases hi : i > b
    · rw [if_pos (decide_eq_true hi)]
      refine ⟨i, t, rfl, by simp, fun z hz => ?_⟩
      rcases List.mem_append.mp hz with q | q
      · exact Int.le_of_lt (Int.lt_of_le_of_lt (hm z q) hi)
      · rw [List.mem_singleton.mp q]; exact Int.le_refl _
    · rw [if_neg (by rw [decide_eq_false hi]; exact Bool.false_ne_true)]
      refine ⟨b, u, rfl, List.mem_append_left _ hb, fun z hz => ?_⟩
      rcases List.mem_append.mp hz with q | q
      · exact hm z q
      · rw [List.mem_singleton.mp q]; omega
theorem MaxRel.none {ys : List V} {Qm : Int → Hp → Prop} (h : MaxRel ys #[]) (q : NsMax Qm ys H) : False := by
  obtain ⟨ns, rfl, h | ⟨b', u', e, hb, hm⟩⟩ := h
  · obtain ⟨ms, e1, h2, _⟩ := q
    rw [h.1] at e1
    exact h2 (map_int_inj e1).symm
  · have := congrArg Array.size e
    simp at this
end
end Gx
namespace TG
open PySem L2
def top (i : Nat) : Stmt := PySem.Challenge.pw_tabgrow_k01_pages_refused.main.body.getD i (.Pass ⟨0, 0, 0, 0⟩)
abbrev s_is_whole : Stmt := top 26
abbrev s_is_sign : Stmt := top 27
abbrev s_is_text : Stmt := top 28
abbrev s_is_row : Stmt := top 29
abbrev s_misfit : Stmt := top 30
abbrev s_check_page : Stmt := top 31
abbrev s_check_style : Stmt := top 33
abbrev s_stretches : Stmt := top 37
abbrev s_closed_runs : Stmt := top 38
abbrev s_is_closed : Stmt := top 39
abbrev s_described : Stmt := top 40
abbrev s_stands_right : Stmt := top 41
abbrev s_is_figures : Stmt := top 42
abbrev s_stops : Stmt := top 44
abbrev s_laid : Stmt := top 45
abbrev s_shown : Stmt := top 46
abbrev s_closed_cells : Stmt := top 48
abbrev s_left_ends : Stmt := top 49
abbrev s_begins_of : Stmt := top 50
abbrev s_line_of : Stmt := top 51
abbrev s_are_places : Stmt := top 34
abbrev s_check_lists : Stmt := top 35
abbrev s_judged : Stmt := top 47
abbrev s_written : Stmt := top 63
abbrev s_rows_of : Stmt := top 64
abbrev s_placed : Stmt := top 73
abbrev s_many_moved : Stmt := top 74
abbrev s_gap_within : Stmt := top 75
abbrev s_route : Stmt := top 77
abbrev s_stepped : Stmt := top 79
abbrev s_begun : Stmt := top 84
abbrev s_take : Stmt := top 85
abbrev s_alike : Stmt := top 86
abbrev s_told : Stmt := top 87
abbrev s_all : Stmt := top 88
abbrev s_sign : Stmt := top 89
abbrev s_cell : Stmt := top 90
abbrev s_row : Stmt := top 91
abbrev s_page : Stmt := top 92
abbrev s_style : Stmt := top 93
abbrev s_bad_cell : Stmt := top 94
abbrev s_bad_row : Stmt := top 95
abbrev s_bad_page : Stmt := top 96
abbrev s_doors : Stmt := top 97
abbrev s_law : Stmt := top 98
def BoxAt (H : Hp) (b l : Addr) : Prop := ∃ (ns : List Int) (st : Int), H b = some (.lst [.ref l, .int st]) ∧ H l = some (.lst (ns.map V.int)) ∧ ns.length ≤ 63
/-- all but the box stays -/
def KB (b l : Addr) (H H' : Hp) : Prop := ∀ c o, H c = some o → c ≠ b → c ≠ l → H' c = some o
theorem KB.trans {b l : Addr} {H H1 H2 : Hp} (x : KB b l H H1) (y : KB b l H1 H2) : KB b l H H2 := fun c o h n m => y c o (x c o h n m) n m
section
variable {P : Program} {w : World} {K : PySem.W.Frag} {mg : Str → Option Value} {base : Heap}
end
end TG
namespace TG
open PySem L2
section
variable {P : Program} {w : World} {K : PySem.W.Frag} {mg : Str → Option Value} {base : Heap}
end
end TG
namespace Gx
open PySem PySem.Spec PyProof.Rows L2 GenW
section
variable {J : It} {n : Nat} {G : Hp → Prop} {Y : Nat → Hp → V → Hp → Prop}
end
def Tabs (cs : List (Addr × Addr)) (H : Hp) : Prop := ∀ p ∈ cs, GxR.TabG H p.2
/-- all but tables stays, the tables are tables -/
structure Ex (cs : List (Addr × Addr)) (H H' : Hp) : Prop where
  ext : LamX.ExtN H H'
  tab : Tabs cs H'
  old : ∀ b, H' b = none → H b = none
  oth : ∀ b o, H b = some o → (∀ p ∈ cs, p.2 ≠ b) → H' b = some o
theorem Ex.trans {cs : List (Addr × Addr)} {H H1 H2 : Hp} (a : Ex cs H H1) (b : Ex cs H1 H2) : Ex cs H H2 := ⟨a.ext.trans b.ext, b.tab, fun c h => a.old c (b.old c h), fun c o e m => b.oth c o (a.oth c o e m) m⟩
theorem upd_none {H : Hp} {a b : Addr} {o : HO} (h : upd H a o b = none) : H b = none ∧ b ≠ a := by
  by_cases hb : b = a
  · rw [hb, upd_same] at h; cases h
  · rw [upd_ne hb] at h; exact ⟨h, hb⟩
/-- a new object, written again -/
theorem ex_new {cs : List (Addr × Addr)} {H H' : Hp} {D : Addr} {o : HO} (t : Tabs cs H) (e : Ex cs H H') (n : H D = none) : Ex cs H (upd H' D o) :=
  ⟨fun b u h m => by rw [upd_ne (ne_of_none h n)]; exact e.ext b u h m, fun p hp => by
    obtain ⟨ps, h1, _⟩ := t p hp
    obtain ⟨ps', h3, h4⟩ := e.tab p hp
    exact ⟨ps', by rw [upd_ne (ne_of_none h1 n)]; exact h3, h4⟩, fun b h => e.old b (upd_none h).1, fun b u h m => by
    rw [upd_ne (ne_of_none h n)]
    exact e.oth b u h m⟩
theorem Ex.lst {cs : List (Addr × Addr)} {H H' : Hp} {a : Addr} {xs : List V} (e : Ex cs H H') (h : H a = some (.lst xs)) : H' a = some (.lst xs) := e.ext _ _ h fun ps q => by cases q
theorem Ex.tup {cs : List (Addr × Addr)} {H H' : Hp} {a : Addr} {xs : List V} (e : Ex cs H H') (h : H a = some (.tup xs)) : H' a = some (.tup xs) := e.ext _ _ h fun ps q => by cases q
theorem Ex.sqL {cs : List (Addr × Addr)} {K : PySem.W.Frag} {H H' : Hp} {a : Addr} {xs : List V} (e : Ex cs H H') (h : SqL K H a xs) : SqL K H' a xs := by
  rcases h with (z | ⟨o, z⟩) | z
  · exact .inl (.inl (e.ext _ _ z fun ps q => by cases q))
  · exact .inl (.inr ⟨o, e.ext _ _ z fun ps q => by cases q⟩)
  · exact .inr z
theorem Ex.sqT {cs : List (Addr × Addr)} {K : PySem.W.Frag} {H H' : Hp} {a : Addr} {xs : List V} (e : Ex cs H H') (h : SqT K H a xs) : SqT K H' a xs := by
  rcases h with (z | ⟨o, z⟩) | z
  · exact .inl (.inl (e.ext _ _ z fun ps q => by cases q))
  · exact .inl (.inr ⟨o, e.ext _ _ z fun ps q => by cases q⟩)
  · exact .inr z
end Gx
namespace TG
open PySem L2 Gx
def SgOk (c : Nat) : Prop := 32 ≤ c ∧ c ≤ 126 ∧ c ≠ 37
structure CellOk (z : Str) : Prop where
  len : z.length ≤ 10
  sg : ∀ c ∈ z.cps.toList, SgOk c
structure RowOk (r : List Str) : Prop where
  pos : 1 ≤ r.length
  len : r.length ≤ 6
  cells : ∀ z ∈ r, CellOk z
abbrev sV (r : List Str) : List V := r.map V.str
section
variable {P : Program} {w : World} {K : PySem.W.Frag} {mg : Str → Option Value} {base : Heap}
end
end TG
namespace TG
open PySem L2 Gx
/-- a page: its rows' tuples at as -/
structure PageAt (K : PySem.W.Frag) (H : Hp) (a : Addr) (as : List Addr) (rows : List (List Str)) : Prop where
  lst : SqL K H a (as.map V.ref)
  len : as.length = rows.length
  row : ∀ (i : Nat) (p : Addr) (r : List Str), as[i]? = some p → rows[i]? = some r → SqT K H p (sV r)
structure PgOk (rows : List (List Str)) : Prop where
  pos : 1 ≤ rows.length
  len : rows.length ≤ 30
  rows : ∀ r ∈ rows, RowOk r
theorem PageAt.ex {K : PySem.W.Frag} {cs : List (Addr × Addr)} {H H' : Hp} {a : Addr} {as : List Addr} {rows : List (List Str)} (p : PageAt K H a as rows) (e : Ex cs H H') : PageAt K H' a as rows :=
  ⟨e.sqL p.lst, p.len, fun i q r h1 h2 => e.sqT (p.row i q r h1 h2)⟩
theorem get_map {α β : Type} {f : α → β} {xs : List α} {i : Nat} {y : β} (h : (xs.map f)[i]? = some y) : ∃ x, xs[i]? = some x ∧ y = f x := by
  rw [List.getElem?_map] at h
  cases e : xs[i]? with
  | none => rw [e] at h; cases h
  | some x => rw [e] at h; cases h; exact ⟨x, rfl, rfl⟩
section
variable {P : Program} {w : World} {K : PySem.W.Frag} {mg : Str → Option Value} {base : Heap} {cs : List (Addr × Addr)}
structure StyleAt (K : PySem.W.Frag) (H : Hp) (a : Addr) (gap least : Int) : Prop where
  tup : SqT K H a [.int gap, .int least]
  g0 : 0 ≤ gap
  g1 : gap ≤ 4
  l0 : 0 ≤ least
  l1 : least ≤ 12
end
end TG
namespace TG
open PySem L2 Gx
abbrev cl (z : Str) : List Nat := z.cps.toList
def restL (l : List Nat) : List Nat := if l.head? = some 45 then l.tail else l
def figB (z : Str) : Bool := decide (restL (cl z) ≠ []) && (restL (cl z)).all fun c => decide (48 ≤ c ∧ c ≤ 57)
section
variable {P : Program} {w : World} {K : PySem.W.Frag} {mg : Str → Option Value} {base : Heap} {cs : List (Addr × Addr)}
end
end TG
namespace TG
open PySem L2 Gx
def fillB (zs : List Str) : List Str := zs.filter fun z => decide (cl z ≠ [])
def rightB (zs : List Str) : Bool := decide (fillB zs ≠ []) && (fillB zs).all figB
section
variable {P : Program} {w : World} {K : PySem.W.Frag} {mg : Str → Option Value} {base : Heap} {cs : List (Addr × Addr)}
end
end TG
namespace TG
open PySem L2 Gx
def clB (rows : List (List Str)) (c i : Nat) : Bool := match rows[i]? with
  | some r => decide (c + 1 < r.length)
  | none => false
def hiB (rows : List (List Str)) (c i : Nat) : Nat := i + ((rows.drop i).takeWhile fun r => decide (c + 1 < r.length)).length
/-- pairs of numbers at ts -/
structure PairsAt (H : Hp) (ts : List Addr) (ps : List (Nat × Nat)) : Prop where
  len : ts.length = ps.length
  at_ : ∀ (i : Nat) (t : Addr) (p : Nat × Nat), ts[i]? = some t → ps[i]? = some p → H t = some (.tup [.int (p.1 : Nat), .int (p.2 : Nat)])
theorem PairsAt.keep {H H' : Hp} {ts : List Addr} {ps : List (Nat × Nat)} (h : PairsAt H ts ps) (k : ∀ b xs, H b = some (.tup xs) → H' b = some (.tup xs)) : PairsAt H' ts ps := ⟨h.len, fun i t p h1 h2 => k _ _ (h.at_ i t p h1 h2)⟩
section
variable {P : Program} {w : World} {K : PySem.W.Frag} {mg : Str → Option Value} {base : Heap} {cs : List (Addr × Addr)}
end
end TG
namespace TG
open PySem L2 Gx
abbrev nilS : Str := ⟨#[]⟩
def cellsB (rows : List (List Str)) (c b e : Nat) : List Str := ((rows.drop b).take (e - b)).map fun r => r.getD c nilS
def longB : List Str → Nat
  | [] => 0
  | z :: zs => max z.length (longB zs)
def widthB (zs : List Str) (gap least : Int) : Int := if least > (longB zs : Int) + gap then least else (longB zs : Int) + gap
def holdB (zs : List Str) (b : Nat) (gap least : Int) : List Int := if least < (longB zs : Int) + gap then ((List.range zs.length).filter fun i => decide ((zs.getD i nilS).length = longB zs)).map fun i => ((b + i : Nat) : Int) else []
section
variable {P : Program} {w : World} {K : PySem.W.Frag} {mg : Str → Option Value} {base : Heap} {cs : List (Addr × Addr)}
/-- the told tuple at t, its holders at h -/
def DescAt (H : Hp) (t h : Addr) (c b e : Nat) (zs : List Str) (gap least : Int) : Prop :=
  H t = some (.tup [.int (c : Nat), .int (b : Nat), .int (e : Nat), .int (widthB zs gap least), .bl (rightB zs), .ref h]) ∧ H h = some (.lst ((holdB zs b gap least).map V.int))
end
end TG
namespace TG
open PySem L2 Gx
/-- the told tuples at ts, their holders at hs -/
structure DescsAt (H : Hp) (ts hs : List Addr) (es : List (Nat × Nat × Nat)) (rows : List (List Str)) (gap least : Int) : Prop where
  len : ts.length = es.length
  len2 : hs.length = es.length
  at_ : ∀ (i : Nat) (t h : Addr) (q : Nat × Nat × Nat), ts[i]? = some t → hs[i]? = some h → es[i]? = some q → DescAt H t h q.1 q.2.1 q.2.2 (cellsB rows q.1 q.2.1 q.2.2) gap least
theorem DescsAt.keep {H H' : Hp} {ts hs : List Addr} {es : List (Nat × Nat × Nat)} {rows : List (List Str)} {gap least : Int} (x : DescsAt H ts hs es rows gap least) (k : ∀ b o, H b = some o → (b ∈ ts ∨ b ∈ hs) → (∀ ps, o ≠ .tbl ps) → H' b = some o) : DescsAt H' ts hs es rows gap least :=
  ⟨x.len, x.len2, fun i t h q h1 h2 h3 => ⟨k _ _ (x.at_ i t h q h1 h2 h3).1 (.inl (List.mem_of_getElem? h1)) (fun ps z => by cases z), k _ _ (x.at_ i t h q h1 h2 h3).2 (.inr (List.mem_of_getElem? h2)) (fun ps z => by cases z)⟩⟩
theorem StyleAt.ex {K : PySem.W.Frag} {cs : List (Addr × Addr)} {H H' : Hp} {a : Addr} {gap least : Int} (p : StyleAt K H a gap least) (e : Ex cs H H') : StyleAt K H' a gap least := ⟨e.sqT p.tup, p.g0, p.g1, p.l0, p.l1⟩
section
variable {P : Program} {w : World} {K : PySem.W.Frag} {mg : Str → Option Value} {base : Heap} {cs : List (Addr × Addr)}
end
end TG
namespace TG
open PySem L2 Gx
instance (c : Nat) : Decidable (SgOk c) := inferInstanceAs (Decidable (32 ≤ c ∧ c ≤ 126 ∧ c ≠ 37))
end TG
namespace TG
open PySem L2 Gx
theorem box_upd {H : Hp} {b l p : Addr} {o : HO} (x : BoxAt H b l) (h1 : p ≠ b) (h2 : p ≠ l) : BoxAt (upd H p o) b l := by
  obtain ⟨ns, st, g1, g2, g3⟩ := x
  exact ⟨ns, st, by rw [upd_ne h1.symm]; exact g1, by rw [upd_ne h2.symm]; exact g2, g3⟩
theorem kb_upd {H H' : Hp} {b l p : Addr} {o : HO} (x : KB b l H H') (n : H p = none) : KB b l H (upd H' p o) := fun c u e h1 h2 => by rw [upd_ne (ne_of_none e n)]; exact x c u e h1 h2
/-- a list of single signs at D -/
structure OnesAt (b l : Addr) (H : Hp) (D : Addr) (i : Nat) (H' : Hp) : Prop where
  box : BoxAt H' b l
  keep : KB b l H H'
  nD : H D = none
  db : D ≠ b
  dl : D ≠ l
  ones : ∃ cs : List Nat, cs.length = i ∧ (∀ c ∈ cs, SgOk c) ∧ H' D = some (.lst (sV (cs.map fun c => ⟨#[c]⟩)))
theorem OnesAt.more {b l : Addr} {H H1 H2 : Hp} {D : Addr} {i c : Nat} (o : OnesAt b l H D i H1) (hc : SgOk c) (hB : BoxAt H2 b l) (x : KB b l H1 H2) :
    ∃ acc, H2 D = some (.lst acc) ∧ acc.length = i ∧ OnesAt b l H D (i + 1) (upd H2 D (.lst (acc ++ [.str ⟨#[c]⟩]))) := by
  obtain ⟨cs, h1, h2, h3⟩ := o.ones
  refine ⟨_, x D _ h3 o.db o.dl, by rw [List.length_map, List.length_map, h1], box_upd hB o.db o.dl, kb_upd (o.keep.trans x) o.nD, o.nD, o.db, o.dl, cs ++ [c], by rw [List.length_append, h1]; rfl, fun d hd => ?_, ?_⟩
  · rcases List.mem_append.mp hd with h | h
    · exact h2 d h
    · rw [List.mem_singleton.mp h]; exact hc
  · rw [upd_same]
    simp [sV]
section
variable {P : Program} {w : World} {K : PySem.W.Frag} {mg : Str → Option Value} {base : Heap} {cs : List (Addr × Addr)}
end
end TG
namespace TG
open PySem L2 Gx
/-- a list of cells at D -/
structure StrsAt (b l : Addr) (H : Hp) (D : Addr) (i : Nat) (H' : Hp) : Prop where
  box : BoxAt H' b l
  keep : KB b l H H'
  nD : H D = none
  db : D ≠ b
  dl : D ≠ l
  zsat : ∃ zs : List Str, zs.length = i ∧ (∀ z ∈ zs, CellOk z) ∧ H' D = some (.lst (sV zs))
theorem StrsAt.more {b l : Addr} {H H1 H2 : Hp} {D : Addr} {i : Nat} {z : Str} (o : StrsAt b l H D i H1) (hc : CellOk z) (hB : BoxAt H2 b l) (x : KB b l H1 H2) :
    ∃ acc, H2 D = some (.lst acc) ∧ acc.length = i ∧ StrsAt b l H D (i + 1) (upd H2 D (.lst (acc ++ [.str z]))) := by
  obtain ⟨zs, h1, h2, h3⟩ := o.zsat
  refine ⟨_, x D _ h3 o.db o.dl, by rw [List.length_map, h1], box_upd hB o.db o.dl, kb_upd (o.keep.trans x) o.nD, o.nD, o.db, o.dl, zs ++ [z], by rw [List.length_append, h1]; rfl, fun d hd => ?_, ?_⟩
  · rcases List.mem_append.mp hd with h | h
    · exact h2 d h
    · rw [List.mem_singleton.mp h]; exact hc
  · rw [upd_same]
    simp [sV]
/-- a list of numbers at D, below m -/
structure IntsAt (b l : Addr) (H : Hp) (D : Addr) (i : Nat) (H' : Hp) : Prop where
  box : BoxAt H' b l
  keep : KB b l H H'
  nD : H D = none
  db : D ≠ b
  dl : D ≠ l
  isat : ∃ zs : List Int, zs.length = i ∧ H' D = some (.lst (zs.map V.int))
theorem IntsAt.more {b l : Addr} {H H1 H2 : Hp} {D : Addr} {i : Nat} {z : Int} (o : IntsAt b l H D i H1) (hB : BoxAt H2 b l) (x : KB b l H1 H2) :
    ∃ acc, H2 D = some (.lst acc) ∧ acc.length = i ∧ IntsAt b l H D (i + 1) (upd H2 D (.lst (acc ++ [.int z]))) := by
  obtain ⟨zs, h1, h3⟩ := o.isat
  refine ⟨_, x D _ h3 o.db o.dl, by rw [List.length_map, h1], box_upd hB o.db o.dl, kb_upd (o.keep.trans x) o.nD, o.nD, o.db, o.dl, zs ++ [z], by rw [List.length_append, h1]; rfl, ?_⟩
  rw [upd_same]
  simp
/-- rows' tuples -/
def RowsP (H : Hp) (as : List Addr) : Prop := ∀ p ∈ as, ∃ r, H p = some (.tup (sV r)) ∧ RowOk r
theorem RowsP.keep {H H' : Hp} {as : List Addr} (x : RowsP H as) (k : ∀ p xs, H p = some (.tup xs) → H' p = some (.tup xs)) : RowsP H' as := fun p hp => by
  obtain ⟨r, h1, h2⟩ := x p hp
  exact ⟨r, k _ _ h1, h2⟩
theorem RowsP.page {H : Hp} : ∀ {as : List Addr}, RowsP H as → ∃ rows : List (List Str), as.length = rows.length ∧ (∀ (i : Nat) (p : Addr) (r : List Str), as[i]? = some p → rows[i]? = some r → H p = some (.tup (sV r))) ∧ ∀ r ∈ rows, RowOk r
  | [], _ => ⟨[], rfl, fun i p r h => by simp at h, fun r h => by simp at h⟩
  | a :: as, x => by
    obtain ⟨rows, h1, h2, h3⟩ := RowsP.page (as := as) fun p hp => x p (List.mem_cons_of_mem _ hp)
    obtain ⟨r, g1, g2⟩ := x a List.mem_cons_self
    refine ⟨r :: rows, by rw [List.length_cons, List.length_cons, h1], fun i p q e1 e2 => ?_, fun q hq => ?_⟩
    · cases i with
      | zero => cases e1; cases e2; exact g1
      | succ i => exact h2 i p q (by simpa using e1) (by simpa using e2)
    · rcases List.mem_cons.mp hq with z | z
      · rw [z]; exact g2
      · exact h3 q z
section
variable {P : Program} {w : World} {K : PySem.W.Frag} {mg : Str → Option Value} {base : Heap} {cs : List (Addr × Addr)}
end
end TG
namespace TG
open PySem L2 Gx
section
variable {P : Program} {w : World} {K : PySem.W.Frag} {mg : Str → Option Value} {base : Heap} {cs : List (Addr × Addr)}
end
end TG
namespace TG
open PySem L2 Gx
def loB (rows : List (List Str)) (c : Nat) : Nat → Nat
  | 0 => 0
  | i + 1 => if clB rows c i = true then loB rows c i else i + 1
section
variable {P : Program} {w : World} {K : PySem.W.Frag} {mg : Str → Option Value} {base : Heap} {cs : List (Addr × Addr)}
end
end TG
namespace TG
open PySem L2 Gx
end TG
namespace TG
open PySem L2 Gx
def wB (rows : List (List Str)) (gap least : Int) (i c : Nat) : Int := widthB (cellsB rows c (loB rows c i) (hiB rows c i)) gap least
def rB (rows : List (List Str)) (i c : Nat) : Bool := rightB (cellsB rows c (loB rows c i) (hiB rows c i))
end TG
namespace TG
open PySem L2 Gx
section
variable {P : Program} {w : World} {K : PySem.W.Frag} {mg : Str → Option Value} {base : Heap} {cs : List (Addr × Addr)}
end
end TG
namespace TG
open PySem L2 Gx
/-- the list at l holds what is told of the first n closed cells of row i -/
def CellsAt (H : Hp) (rows : List (List Str)) (gap least : Int) (i n : Nat) (l : Addr) : Prop :=
  ∃ ts : List Addr, H l = some (.lst (ts.map V.ref)) ∧ ts.length = n ∧ ∀ (c : Nat) (t : Addr), ts[c]? = some t → H t = some (.tup [.int (wB rows gap least i c), .bl (rB rows i c)])
theorem CellsAt.ext {H H' : Hp} {rows : List (List Str)} {gap least : Int} {i n : Nat} {l : Addr} (x : CellsAt H rows gap least i n l) (e : LamX.ExtN H H') : CellsAt H' rows gap least i n l :=
  let ⟨ts, h1, h2, h3⟩ := x
  ⟨ts, e _ _ h1 (by intro ps z; cases z), h2, fun c t h => e _ _ (h3 c t h) (by intro ps z; cases z)⟩
theorem CellsAt.upd {H : Hp} {rows : List (List Str)} {gap least : Int} {i n : Nat} {l p : Addr} {xs : List V} {o : HO} (x : CellsAt H rows gap least i n l) (hp : H p = some (.lst xs)) (ne : l ≠ p) : CellsAt (upd H p o) rows gap least i n l :=
  let ⟨ts, h1, h2, h3⟩ := x
  ⟨ts, by rw [upd_ne ne]; exact h1, h2, fun c t h => by rw [upd_ne (ne_of (h3 c t h) hp (by intro z; cases z))]; exact h3 c t h⟩
section
variable {P : Program} {w : World} {K : PySem.W.Frag} {mg : Str → Option Value} {base : Heap} {cs : List (Addr × Addr)}
end
end TG
namespace TG
open PySem L2 Gx
/-- the list at r holds lists of numbers, f tells them -/
structure ToldAt (H : Hp) (r : Addr) (es : List Addr) (f : Nat → List Int) (n : Nat) : Prop where
  lst : H r = some (.lst (es.map V.ref))
  len : es.length = n
  nd : es.Nodup
  at_ : ∀ (i : Nat) (e : Addr), es[i]? = some e → H e = some (.lst ((f i).map V.int))
theorem ToldAt.ext {H H' : Hp} {r : Addr} {es : List Addr} {f : Nat → List Int} {n : Nat} (t : ToldAt H r es f n) (x : LamX.ExtN H H') : ToldAt H' r es f n :=
  ⟨x _ _ t.lst (by intro ps z; cases z), t.len, t.nd, fun i e h => x _ _ (t.at_ i e h) (by intro ps z; cases z)⟩
section
variable {P : Program} {w : World} {K : PySem.W.Frag} {mg : Str → Option Value} {base : Heap} {cs : List (Addr × Addr)}
end
end TG
namespace TG
open PySem L2 Gx
section
variable {P : Program} {w : World} {K : PySem.W.Frag} {mg : Str → Option Value} {base : Heap} {cs : List (Addr × Addr)}
end
end TG
namespace TG
open PySem L2 Gx
section
variable {P : Program} {w : World} {K : PySem.W.Frag} {mg : Str → Option Value} {base : Heap} {cs : List (Addr × Addr)}
end
end TG
namespace TG
open PySem L2 Gx
section
variable {P : Program} {w : World} {K : PySem.W.Frag} {mg : Str → Option Value} {base : Heap} {cs : List (Addr × Addr)}
end
end TG
namespace TG
open PySem L2 Gx
section
variable {P : Program} {w : World} {K : PySem.W.Frag} {mg : Str → Option Value} {base : Heap} {cs : List (Addr × Addr)}
end
end TG
namespace TG
open PySem L2 Gx
theorem box_ext {b l : Addr} {H H' : Hp} (B : BoxAt H b l) (x : LamX.ExtN H H') : BoxAt H' b l := let ⟨ns, st, h1, h2, h3⟩ := B; ⟨ns, st, x _ _ h1 (by intro ps z; cases z), x _ _ h2 (by intro ps z; cases z), h3⟩
/-- what stands in a turn of the law: the box, the tables, the page and its copy, the style -/
structure PageT (cs : List (Addr × Addr)) (b l p q h : Addr) (as : List Addr) (rows : List (List Str)) (gap least : Int) (H : Hp) : Prop where
  box : BoxAt H b l
  tab : Tabs cs H
  pg : H p = some (.lst (as.map V.ref))
  hd : H h = some (.lst (as.map V.ref))
  al : as.length = rows.length
  row : ∀ (i : Nat) (a : Addr) (z : List Str), as[i]? = some a → rows[i]? = some z → H a = some (.tup (sV z))
  sty : H q = some (.tup [.int gap, .int least])
  g0 : 0 ≤ gap
  g1 : gap ≤ 4
  l0 : 0 ≤ least
  l1 : least ≤ 12
  ok : PgOk rows
theorem PageT.ext {cs : List (Addr × Addr)} {b l p q h : Addr} {as : List Addr} {rows : List (List Str)} {gap least : Int} {H H' : Hp} (t : PageT cs b l p q h as rows gap least H) (x : LamX.ExtN H H') (y : Tabs cs H') : PageT cs b l p q h as rows gap least H' :=
  ⟨box_ext t.box x, y, x _ _ t.pg (by intro ps z; cases z), x _ _ t.hd (by intro ps z; cases z), t.al, fun i a z h1 h2 => x _ _ (t.row i a z h1 h2) (by intro ps z; cases z), x _ _ t.sty (by intro ps z; cases z), t.g0, t.g1, t.l0, t.l1, t.ok⟩
end TG
namespace Zm
open PySem PySem.Spec PyProof.Rows L2
section
variable {P : Program} {w : World} {A : Around} {E : Value → Shared → Prop} {s : Shared} {z TI TO i1 i2 l1 l2 : Addr}
end
end Zm
namespace Zm
open PySem PySem.Spec PyProof.Rows L2
abbrev k1 (h : Heap) (a : Addr) : Heap := h.push { cls := .type "tuple_iterator", data := .fields #[.ref a, .int 0 0] }
abbrev k2 (h : Heap) (a b : Addr) : Heap := (k1 h a).push { cls := .type "list_iterator", data := .fields #[.ref b, .int 0 0] }
abbrev k3 (h : Heap) (a b : Addr) : Heap := (k2 h a b).push { cls := .type "tuple", data := .seq #[.ref h.objs.size, .ref (k1 h a).objs.size] }
abbrev k4 (h : Heap) (a b : Addr) : Heap := (k3 h a b).push { cls := .type "tuple", data := .seq #[.none, .none] }
abbrev k5 (h : Heap) (a b : Addr) : Heap := (k4 h a b).push { cls := .type "zip", data := .fields #[.none, .bool false, .bool false, .ref (k2 h a b).objs.size, .ref (k3 h a b).objs.size] }
section
variable {P : Program} {w : World} {A : Around} {E : Value → Shared → Prop} {s : Shared}
end
end Zm
namespace TG
open PySem L2 Gx
structure Small (rows : List (List Str)) (gap least : Int) : Prop where
  ok : PgOk rows
  g0 : 0 ≤ gap
  g1 : gap ≤ 4
  l0 : 0 ≤ least
  l1 : least ≤ 12
section
variable {P : Program} {w : World} {K : PySem.W.Frag} {mg : Str → Option Value} {base : Heap} {cs : List (Addr × Addr)}
end
end TG
namespace TG
open PySem L2 Gx
section
variable {P : Program} {w : World} {K : PySem.W.Frag} {mg : Str → Option Value} {base : Heap} {cs : List (Addr × Addr)}
end
end TG
namespace Lv
open PySem PySem.Spec PyProof.Rows L2 NdefX GenW
section
variable {X : Cx} {pins : List (Addr × Obj)} {σ : L2.St} {H : Hp} {s : Shared}
end
section
variable {P : Program} {w : World} {K : PySem.W.Frag} {mg : Str → Option Value} {base : Heap}
end
end Lv
namespace Tw
open PySem PySem.Spec PyProof.Rows L2
section
variable {X : Cx}
end
end Tw
namespace TG
open PySem L2 Gx PySem.Spec
abbrev bl (n : Nat) : List Nat := List.replicate n 32
end TG
namespace TG
open PySem L2 Gx
section
variable {rows : List (List Str)} {gap least : Int} (S : Small rows gap least) {i : Nat} {r : List Str} (hr : rows[i]? = some r)
include S hr
end
end TG
namespace TG
open PySem L2 Gx
end TG
namespace TG
open PySem L2 Gx
section
variable {P : Program} {w : World} {K : PySem.W.Frag} {mg : Str → Option Value} {base : Heap} {cs : List (Addr × Addr)}
end
end TG
namespace TG
open PySem PySem.Spec PyProof.Rows L2 NdefX GenW Gx Lv
section
variable {P : Program} {w : World} {K : PySem.W.Frag} {mg : Str → Option Value} {base : Heap} {cs : List (Addr × Addr)}
end
end TG
namespace TG
open PySem PySem.Spec PyProof.Rows L2 NdefX GenW Gx Lv
section
variable {P : Program} {w : World} {K : PySem.W.Frag} {mg : Str → Option Value} {base : Heap} {cs : List (Addr × Addr)}
end
end TG
namespace TG
open PySem PySem.Spec PyProof.Rows L2 NdefX GenW Gx Lv
section
variable {P : Program} {w : World} {K : PySem.W.Frag} {mg : Str → Option Value} {base : Heap} {cs : List (Addr × Addr)}
end
end TG
namespace TG
open PySem PySem.Spec PyProof.Rows L2 NdefX GenW Gx Lv
section
variable {P : Program} {w : World} {K : PySem.W.Frag} {mg : Str → Option Value} {base : Heap} {cs : List (Addr × Addr)}
end
end TG
namespace TG
open PySem PySem.Spec PyProof.Rows L2 NdefX GenW Gx Lv
section
variable {P : Program} {w : World} {K : PySem.W.Frag} {mg : Str → Option Value} {base : Heap} {cs : List (Addr × Addr)}
end
end TG
namespace TG
open PySem PySem.Spec PyProof.Rows L2 NdefX GenW Gx Lv Tw
/-- rows told anew, cell by cell: so far -/
structure GrowR (cs : List (Addr × Addr)) (H : Hp) (D : Addr) (rows : List (List Str)) (f : Str → Str) (i : Nat) (H' : Hp) : Prop where
  ex : Ex cs H H'
  nD : H D = none
  sat : ∃ ps : List Addr, H' D = some (.lst (ps.map V.ref)) ∧ ps.length = i ∧ ∀ (j : Nat) (q : Addr) (r : List Str), ps[j]? = some q → rows[j]? = some r → H' q = some (.tup (sV (r.map f)))
theorem GrowR.more {cs : List (Addr × Addr)} {H H1 : Hp} {D t : Addr} {rows : List (List Str)} {f : Str → Str} {i : Nat} {r : List Str} (hT : Tabs cs H) (o : GrowR cs H D rows f i H1) (hr : rows[i]? = some r) (ht : H1 t = some (.tup (sV (r.map f)))) :
    ∃ acc, H1 D = some (.lst acc) ∧ acc.length = i ∧ GrowR cs H D rows f (i + 1) (upd H1 D (.lst (acc ++ [.ref t]))) := by
  obtain ⟨ps, h1, h2, h3⟩ := o.sat
  have nDt : t ≠ D := fun e => by rw [e, h1] at ht; cases ht
  refine ⟨_, h1, by rw [List.length_map, h2], ex_new hT o.ex o.nD, o.nD, ps ++ [t], by rw [upd_same, List.map_append]; rfl, by rw [List.length_append, h2]; rfl, fun j q r2 a b => ?_⟩
  by_cases hj : j < ps.length
  · rw [List.getElem?_append_left hj] at a
    have h0 := h3 j q r2 a b
    rw [upd_ne (fun e => by rw [e, h1] at h0; cases h0)]
    exact h0
  · have hl2 := (List.getElem?_eq_some_iff.mp a).1
    rw [List.length_append, List.length_singleton] at hl2
    have ej : j = i := by omega
    subst ej
    rw [List.getElem?_append_right (by omega), h2, Nat.sub_self] at a
    cases a
    rw [hr] at b
    cases b
    rw [upd_ne nDt]
    exact ht
/-- the cells of one row, so far -/
structure GrowC (cs : List (Addr × Addr)) (H : Hp) (D : Addr) (r : List Str) (f : Str → Str) (i : Nat) (H' : Hp) : Prop where
  ex : Ex cs H H'
  nD : H D = none
  sat : H' D = some (.lst (sV ((r.take i).map f)))
theorem GrowC.more {cs : List (Addr × Addr)} {H H1 : Hp} {D : Addr} {r : List Str} {f : Str → Str} {i : Nat} {z : Str} (hT : Tabs cs H) (o : GrowC cs H D r f i H1) (hz : r[i]? = some z) :
    H1 D = some (.lst (sV ((r.take i).map f))) ∧ GrowC cs H D r f (i + 1) (upd H1 D (.lst (sV ((r.take i).map f) ++ [.str (f z)]))) := by
  refine ⟨o.sat, ex_new hT o.ex o.nD, o.nD, ?_⟩
  rw [upd_same, List.take_add_one, hz]
  simp [sV]
theorem GrowC.all {cs : List (Addr × Addr)} {H H1 : Hp} {D : Addr} {r : List Str} {f : Str → Str} (o : GrowC cs H D r f r.length H1) : H1 D = some (.lst (sV (r.map f))) := by
  have := o.sat
  rwa [List.take_of_length_le (Nat.le_refl _)] at this
section
variable {P : Program} {w : World} {K : PySem.W.Frag} {mg : Str → Option Value} {base : Heap} {cs : List (Addr × Addr)}
def rowsBy (f : Str → Str) (rows : List (List Str)) : List (List Str) := rows.map fun r => r.map f
theorem GrowR.page {H H' : Hp} {D : Addr} {rows : List (List Str)} {f : Str → Str} (o : GrowR cs H D rows f rows.length H') : ∃ ps, PageAt K H' D ps (rowsBy f rows) := by
  obtain ⟨ps, h1, h2, h3⟩ := o.sat
  refine ⟨ps, SqL.of h1, by rw [h2]; exact (List.length_map ..).symm, fun i q r a b => ?_⟩
  obtain ⟨r0, hr, rfl⟩ := get_map b
  exact .inl (.inl (h3 i q r0 a hr))
end
end TG
namespace TG
open PySem L2 Gx Lv
section
variable {rows : List (List Str)} {gap least : Int} (S : Small rows gap least) {i : Nat} {r : List Str} (hr : rows[i]? = some r)
include S hr
end
end TG
namespace TG
open PySem PySem.Spec PyProof.Rows L2 NdefX GenW Gx Lv
section
variable {P : Program} {w : World} {K : PySem.W.Frag} {mg : Str → Option Value} {base : Heap} {cs : List (Addr × Addr)}
theorem PageAt.exL {H H' : Hp} {a : Addr} {as : List Addr} {rows : List (List Str)} (p : PageAt K H a as rows) (e : Ex cs H H') : PageAt K H' a as rows := p.ex e
theorem StyleAt.exL {H H' : Hp} {a : Addr} {gap least : Int} (p : StyleAt K H a gap least) (e : Ex cs H H') : StyleAt K H' a gap least := ⟨e.sqT p.tup, p.g0, p.g1, p.l0, p.l1⟩
end
end TG
namespace Xi
open PySem PySem.Spec PyProof.Rows L2 NdefX
section
variable {prog : Program} {w : World} {A : Around} {E : Value → Shared → Prop} {h : Heap} {g : Array GenState} {d : Drawn} {t : Nat} {os : OsState}
variable {nm q : Str} {C N : Addr} {bs bm : List Value} {hdct : Bool} {sn : List Str} {sub : List Value} {ab : Bool} {col : Option Bool} {dd : Option Addr} {k0 k1 k2 k3 k5 : Option Value}
end
end Xi
namespace Xi
open PySem PySem.Spec PyProof.Rows L2 NdefX
section
variable {P : Program} {w : World} {K : PySem.W.Frag} {mg : Str → Option Value} {base : Heap} {CX : CXT}
end
end Xi
namespace TG
open PySem L2 Gx
section
variable {P : Program} {w : World} {K : PySem.W.Frag} {mg : Str → Option Value} {base : Heap} {cs : List (Addr × Addr)}
end
end TG
namespace TG
open PySem PySem.Spec PyProof.Rows L2 NdefX GenW Gx Lv
section
variable {P : Program} {w : World} {K : PySem.W.Frag} {mg : Str → Option Value} {base : Heap} {cs : List (Addr × Addr)}
end
end TG
namespace TG
open PySem PySem.Spec PyProof.Rows L2 NdefX GenW Gx Lv
section
variable {P : Program} {w : World} {K : PySem.W.Frag} {mg : Str → Option Value} {base : Heap} {cs : List (Addr × Addr)}
end
end TG
namespace TG
open PySem PySem.Spec PyProof.Rows L2 NdefX GenW Gx Lv
def initOf : Stmt → Stmt
  | .ClassDef _ _ _ [s] _ _ _ _ _ _ _ => s
  | s => s
abbrev iniL : Stmt := initOf (top 3)
section
variable {P : Program} {w : World} {K : PySem.W.Frag} {mg : Str → Option Value} {base : Heap}
end
end TG
namespace TG
open PySem PySem.Spec PyProof.Rows L2 NdefX GenW Gx Lv
abbrev IniW : Type := Option (Str × Str × Arguments × FuncBody × Scope × Addr × List Str × Addr)
abbrev iniA (K : PySem.W.Frag) (x : Str) : Addr := He.ma K (He.ga K x) "__init__"
def iniW (K : PySem.W.Frag) (x : Str) : IniW := match K.lookup (iniA K x) with
  | some ⟨_, _, .func fd, _⟩ => some (fd.name, fd.qualname, fd.params, fd.body, fd.scope, fd.globals, fd.closure.map (·.1), fd.builtins)
  | _ => none
def oexB (K : PySem.W.Frag) (C : Addr) : Bool := match K.lookup C with
  | some ⟨.type "type", _, .cls cd, sl⟩ => (match cd.mro, sl.toList with
    | .ref C' :: bm, [_, _, _, _, some (.builtin n), _] => decide (C' = C) && decide (n = "ValueError.__new__") && (!cd.hasDel && (cd.hasDict && PySem.HandSPX.refsVE bm))
    | _, _ => false)
  | _ => false
def cellB (K : PySem.W.Frag) (cc C : Addr) : Bool := match K.lookup cc with
  | some ⟨_, _, .cell (some (.ref a)), _⟩ => decide (a = C)
  | _ => false
def fileB (K : PySem.W.Frag) (c : Addr) (main : Str) : Bool := match K.lookup c with
  | some ⟨_, _, .fields vs, _⟩ => (match (vs[2]? : Option Value) with
    | some (Value.str file _) => main == file
    | _ => false)
  | _ => false
def fnB (K : PySem.W.Frag) (C : Addr) (main : Str) (f : Addr) : Bool := match K.lookup f with
  | some ⟨_, _, .func fd, _⟩ => (match fd.closure, fd.code, fd.defaults, fd.kwdefaults, fd.annotations with
    | [(_, cc)], .ref c, .none, .none, none => cellB K cc C && (fileB K c main && PySem.W.codeIn K (.ref c) fd.qualname)
    | _, _, _, _, _ => false)
  | _ => false
def clsB (K : PySem.W.Frag) (C : Addr) : Bool := match PySem.W.clsIn K C with
  | some cd => decide (PySem.W.alongIn K "__init__" ((cd.mro.dropWhile (· != .ref C)).drop 1) = some (some (.builtin "ValueError.__init__")))
  | none => false
/-- the class x, whose begin keeps the field fl -/
def errB (main : Str) (x fl : Str) (K : PySem.W.Frag) : Bool :=
  oexB K (He.ga K x) && (He.eqO (PySem.W.nsIn K mainGlobals x) (some (some (.ref (He.ga K x)))) && (He.eqO (PySem.W.findIn K (.ref (He.ga K x)) "__setattr__") (some (some (.builtin "object.__setattr__"))) && (decide (PySem.W.subIn K (.ref (He.ga K x)) (.type "BaseException") = some true) && (decide (PySem.W.typeIn K (.ref (He.ga K x)) = some (.type "type")) && (PySem.W.keepIn K (.ref (He.ga K x)) &&
    (He.eqO (PySem.W.findIn K (.ref (He.ga K x)) "__init__") (some (some (.ref (iniA K x)))) && (decide (PySem.W.typeIn K (.ref (iniA K x)) = some (.type "function")) && (He.eqO (PySem.W.findIn K (.ref (He.ga K x)) fl) (some none) && (fnB K (He.ga K x) main (iniA K x) && (clsB K (He.ga K x) && (decide (PySem.W.mroIn K (He.ga K x) (.ref (He.ga K x)) = some true) &&
      (decide (PySem.W.subIn K (.ref (He.ga K x)) (.type "ValueError") = some true) && He.eqO (PySem.W.nsIn K cStatics "thirdparty.any") (some none)))))))))))))
section
variable {P : Program} {w : World} {K : PySem.W.Frag} {mg : Str → Option Value} {base : Heap}
end
end TG
namespace TG
open PySem PySem.Spec PyProof.Rows L2
def rootsI (g : Addr → Option Obj) (n : Nat) : List Addr := cStatics :: He.asD g n
abbrev fragI (g : Addr → Option Obj) (n : Nat) : PySem.W.Frag := He.frT g (rootsI g n)
section
variable (n : Nat) (fa : List He.Fa) (fn : List He.DefD) (ts : List He.Tab) (tf : List He.Defn) (ex : PySem.W.Frag → Bool) (xs : List Str) (vals : List IniW)
def seenI (K : PySem.W.Frag) (g : Addr → Option Obj) : (He.AlT × Bool) × List IniW := ((He.obsT fa fn ts K, ex K && He.tabsB g tf K), xs.map (iniW K))
def obsI (g : Addr → Option Obj) : (He.AlT × Bool) × List IniW := seenI fa fn ts tf ex xs (fragI g n) g
theorem saysI {w : World} {h : Heap} (e : obsI n fa fn ts tf ex xs h.get? = ((He.valT fn ts w, true), vals)) : He.SaysX fa fn ts tf ex w h (fragI h.get? n) ∧ xs.map (iniW (fragI h.get? n)) = vals := by
  refine ⟨?_, congrArg Prod.snd e⟩
  have e1 : He.obsT fa fn ts (fragI h.get? n) = He.valT fn ts w := congrArg (fun z : (He.AlT × Bool) × List IniW => z.1.1) e
  have e2 : (ex (fragI h.get? n) && He.tabsB h.get? tf (fragI h.get? n)) = true := congrArg (fun z : (He.AlT × Bool) × List IniW => z.1.2) e
  obtain ⟨h1, h2⟩ := He.ba e2
  have at_ : ∀ p ∈ tf, PySem.W.codeHdIn (fragI h.get? n) (He.cT (fragI h.get? n) p).1 (He.cT (fragI h.get? n) p).2 = true ∧ ∃ o, h.get? (He.cT (fragI h.get? n) p).2 = some o ∧ He.emptyTab o = true := fun p hp => by
    obtain ⟨h3, h4⟩ := He.ba (List.all_eq_true.mp h2 p hp)
    cases q : h.get? (He.cT (fragI h.get? n) p).2 with
    | none => rw [q] at h4; cases h4
    | some o => rw [q] at h4; exact ⟨h3, o, rfl, h4⟩
  exact ⟨e1, h1, fun p hp => (at_ p hp).1, fun p hp => let ⟨_, o, q, z⟩ := at_ p hp; He.frT_none q z, fun p hp => let ⟨_, o, q, z⟩ := at_ p hp; by rw [q, He.emptyTab_eq z]⟩
def hookI : PySem.W.Hook where
  α := (He.AlT × Bool) × List IniW
  obs := fun s => obsI n fa fn ts tf ex xs s.heap.get?
  val := fun w => ((He.valT fn ts w, true), vals)
  says := fun w h => ∃ K : PySem.W.Frag, K.In h ∧ He.SaysX fa fn ts tf ex w h K ∧ xs.map (iniW K) = vals
  of := fun _ s e => ⟨_, He.frT_in, saysI n fa fn ts tf ex xs vals e⟩
  keeps := fun w h h' ⟨K, hK, c, e⟩ k => ⟨K, PySem.W.Frag.In.keeps hK k, ⟨c.t, c.more, c.hd, c.out, fun p hp => k _ _ (c.empty p hp)⟩, e⟩
theorem obsI_eq {g : Addr → Option Obj} {s : Shared} (h : ∀ a, g a = s.heap.get? a) : obsI n fa fn ts tf ex xs g = (hookI n fa fn ts tf ex xs vals).obs s := by
  have e : g = s.heap.get? := funext h
  rw [e]
  rfl
end
end TG
namespace TG
open PySem L2 Gx
section
variable {P : Program} {w : World} {K : PySem.W.Frag} {mg : Str → Option Value} {base : Heap} {cs : List (Addr × Addr)}
end
end TG
namespace TG
open PySem L2 Gx
section
variable {P : Program} {w : World} {K : PySem.W.Frag} {mg : Str → Option Value} {base : Heap} {cs : List (Addr × Addr)}
end
end TG
namespace TG
open PySem PySem.Spec PyProof.Rows L2 NdefX GenW Gx Lv
section
variable {P : Program} {w : World} {K : PySem.W.Frag} {mg : Str → Option Value} {base : Heap} {cs : List (Addr × Addr)}
end
end TG
namespace TG
open PySem PySem.Spec PyProof.Rows L2
section
variable {P : Program} {w : World}
variable {K : PySem.W.Frag} {mg : Str → Option Value} {base : Heap} {A : Around} {outer : List Env} {s s' : Shared}
end
end TG
namespace TG
open PySem PySem.Spec PyProof.Rows L2 NdefX GenW Gx Lv
section
variable {P : Program} {w : World} {K : PySem.W.Frag} {mg : Str → Option Value} {base : Heap}
end
end TG
namespace TG
open PySem PySem.Spec PyProof.Rows L2 NdefX GenW Gx Lv
end TG
namespace TG
open PySem PySem.Spec PyProof.Rows L2 NdefX GenW Gx Lv
end TG
namespace TG
open PySem PySem.Spec PyProof.Rows L2
def clsBd : Stmt → List Stmt
  | .ClassDef _ _ _ b _ _ _ _ _ _ _ => b
  | _ => []
def mth (c i : Nat) : Stmt := (clsBd (top c)).getD i (.Pass ⟨0, 0, 0, 0⟩)
end TG
namespace TG
open PySem PySem.Spec PyProof.Rows L2
def excNm : List Str := ["BadPage", "BadStyle", "BadRow", "BadCell", "BadCount", "BadLines", "BadStep", "BadStroke", "BadText", "BadHand", "TooMuch"]
def excFl : List Str := ["row", "", "", "", "", "line", "number", "number", "row", "", ""]
abbrev nmE (j : Nat) : Str := excNm.getD j ""
abbrev flE (j : Nat) : Str := excFl.getD j ""
end TG
namespace TG
open PySem PySem.Spec PyProof.Rows L2
/-! ### the head -/
def dd (i : Nat) (x : Str) : He.DefD := ⟨(x, none), x, x, defArgs (top i), defBody (top i), defScope (top i), [], []⟩
def dm (c i : Nat) (C m : Str) : He.DefD := ⟨(C, some m), m, C ++ "." ++ m, defArgs (mth c i), defBody (mth c i), defScope (mth c i), [], []⟩
def fnL : List He.DefD := [dd 26 "is_whole", dd 27 "is_sign", dd 28 "is_text_of_signs", dd 29 "is_row", dd 30 "first_misfit", dd 31 "check_page", dd 33 "check_style", dd 37 "stretches", dd 38 "closed_runs", dd 39 "is_closed", dd 40 "described", dd 41 "stands_right", dd 42 "is_figures", dd 44 "stops", dd 45 "laid", dd 46 "shown", dd 47 "judged", dd 48 "closed_cells", dd 49 "left_ends", dd 50 "begins_of", dd 51 "line_of", dd 63 "written", dd 73 "placed", dd 74 "many_moved", dd 75 "gap_within", dd 77 "route", dd 79 "stepped", dd 84 "_law_begun", dd 85 "_law_take", dd 86 "_law_alike", dd 87 "_law_told", dd 88 "_law_all", dd 89 "_law_sign", dd 90 "_law_cell", dd 91 "_law_row", dd 92 "_law_page", dd 93 "_law_style", dd 94 "_law_bad_cell", dd 95 "_law_bad_row", dd 96 "_law_bad_page", dd 97 "_law_doors", dd 98 "law", dm 53 0 "Sheet" "__init__", dm 59 0 "Cursor" "__init__", dm 67 0 "Table" "__init__"]
def faL : List He.Fa := [.glo "is_whole", .glo "is_sign", .glo "is_text_of_signs", .glo "is_row", .glo "first_misfit", .glo "check_page", .glo "check_style", .glo "stretches", .glo "closed_runs", .glo "is_closed", .glo "described", .glo "stands_right", .glo "is_figures", .glo "stops", .glo "laid", .glo "shown", .glo "judged", .glo "closed_cells", .glo "left_ends", .glo "begins_of", .glo "line_of", .glo "written", .glo "placed", .glo "many_moved", .glo "gap_within", .glo "route", .glo "stepped", .glo "_law_begun", .glo "_law_take", .glo "_law_alike", .glo "_law_told", .glo "_law_all", .glo "_law_sign", .glo "_law_cell", .glo "_law_row", .glo "_law_page", .glo "_law_style", .glo "_law_bad_cell", .glo "_law_bad_row", .glo "_law_bad_page", .glo "_law_doors", .glo "law", .int "BLANK" 32, .int "TILDE" 126, .int "PERCENT" 37, .int "MOST_ROWS" 30, .int "MOST_CELLS" 6, .int "MOST_SIGNS" 10, .int "MOST_GAP" 4, .int "MOST_LEAST" 12, .int "FARTHEST" 200, .free "isinstance", .free "len", .free "range", .free "max", .free "min", .free "all", .free "str", .free "int", .free "bool", .free "list", .free "tuple", .free "enumerate", .free "ord", .free "zip", .glo "Sheet", .glo "Cursor", .glo "Table", .mkr "Sheet", .mkr "Cursor", .mkr "Table", .exc "BadStyle", .exm "BadStyle" "GrowError" true, .str "TAB" "\t", .str "LINE_END" "\n", .glo "GrowError", .glo "BadPage", .glo "BadStyle", .glo "BadRow", .glo "BadCell", .glo "BadCount", .glo "BadLines", .glo "BadStep", .glo "BadStroke", .glo "BadText", .glo "BadHand", .glo "TooMuch", .free "ValueError", .free "super"]
def tfB : List He.Defn := [("is_text_of_signs", none), ("is_row", none), ("stretches", none), ("described", none), ("stands_right", none)]
def lmL : List He.Defn := [("_law_doors", none), ("law", none)]
def tfL : List He.Defn := tfB ++ lmL
def exL : PySem.W.Frag → Bool := fun K => (lmL.all fun r => (tfB.all fun q => decide ((He.cT K q).2 ≠ (He.cT K r).2)) && (lmL.all fun q => decide (q = r) || decide ((He.cT K q).2 ≠ (He.cT K r).2)))
def constB (_ : PySem.W.Frag) : Bool := true
def exC (K : PySem.W.Frag) : Bool := exL K && constB K
def excCB (K : PySem.W.Frag) (D : Addr) : Bool :=
  He.eqO (PySem.W.findIn K (.ref D) "__getattribute__") (some (some (.builtin "BaseException.__getattribute__"))) && (He.eqO (PySem.W.findIn K (.ref D) "__getattr__") (some none) && (decide (PySem.W.subIn K (.ref D) (.type "BaseException") = some true) && (PySem.W.hasDictIn K D && (He.eqO (PySem.W.findIn K (.ref D) "__class__") (some (some (.builtin "object.__class__"))) &&
    (He.eqO (PySem.W.specialIn K (.builtin "object.__class__") "__get__") (some (some (.builtin "getset_descriptor.__get__"))) && (decide (PySem.W.takesIn K (.builtin "object.__class__") = some true) && decide (PySem.W.mroIn K D (.type "object") = some true)))))))
def errsB (K : PySem.W.Frag) : Bool := (List.range 11).all fun j => excCB K (He.ga K (nmE j)) && (decide (PySem.W.exmOne K (.ref (He.ga K (nmE j))) (.ref (He.ga K "GrowError")) = some true) && (decide (PySem.W.kitOne K (.ref (He.ga K (nmE j))) (.type "ValueError") = some true) &&
  (((List.range 11).all fun i => decide (PySem.W.kitOne K (.ref (He.ga K (nmE j))) (.ref (He.ga K (nmE i))) = some (decide (j = i)))) && (decide (flE j = "") || He.eqO (PySem.W.findIn K (.ref (He.ga K (nmE j))) (flE j)) (some none)))))
def exT (K : PySem.W.Frag) : Bool := exL K && (errB PySem.Challenge.rw_tabgrow_k01_pages_refused.prog.main.file "BadPage" "row" K && errsB K)
abbrev valsT : List IniW := [(some ("__init__", "BadPage.__init__", defArgs iniL, .stmts (defBody iniL), defScope iniL, mainGlobals, ["__class__"], builtinsNs) : IniW)]
end TG

namespace TG
open PySem PySem.Spec PyProof.Rows L2
abbrev hdRow : PySem.W.OpenRow := PySem.W.OpenLaw.row PySem.Challenge.rw_tabgrow_k01_pages_refused
abbrev hdHk : PySem.W.Hook := hookI 4 faL fnL [] tfL exT ["BadPage"] valsT
def hdOb (s : PySem.W.SharedT) : (He.AlT × Bool) × List IniW := obsI 4 faL fnL [] tfL exT ["BadPage"] (HandSHeadRun.getT s)
theorem hdOb_eq (s : PySem.W.SharedT) : hdOb s = hdHk.obs s.abs := obsI_eq 4 faL fnL [] tfL exT ["BadPage"] valsT (HandSHeadRun.getT_eq s)
def loose0 : List Str := [PySem.Str.ofString "_wall", PySem.Str.ofString "GrowError", PySem.Str.ofString "BadPage", PySem.Str.ofString "BadStyle", PySem.Str.ofString "BadRow", PySem.Str.ofString "BadCell", PySem.Str.ofString "BadCount", PySem.Str.ofString "BadHand", PySem.Str.ofString "TooMuch", PySem.Str.ofString "BadLines", PySem.Str.ofString "BadStep", PySem.Str.ofString "BadStroke", PySem.Str.ofString "BadText", PySem.Str.ofString "MOST_ROWS", PySem.Str.ofString "MOST_CELLS", PySem.Str.ofString "MOST_SIGNS", PySem.Str.ofString "MOST_GAP", PySem.Str.ofString "MOST_LEAST", PySem.Str.ofString "FARTHEST", PySem.Str.ofString "BLANK"]
def loose1 : List Str := [PySem.Str.ofString "TILDE", PySem.Str.ofString "PERCENT", PySem.Str.ofString "TAB", PySem.Str.ofString "LINE_END", PySem.Str.ofString "is_whole", PySem.Str.ofString "is_sign", PySem.Str.ofString "is_text_of_signs", PySem.Str.ofString "is_row", PySem.Str.ofString "first_misfit", PySem.Str.ofString "check_page", PySem.Str.ofString "check_row", PySem.Str.ofString "check_style", PySem.Str.ofString "are_places", PySem.Str.ofString "check_lists", PySem.Str.ofString "stretches", PySem.Str.ofString "closed_runs", PySem.Str.ofString "is_closed", PySem.Str.ofString "described", PySem.Str.ofString "stands_right", PySem.Str.ofString "is_figures"]
def loose2 : List Str := [PySem.Str.ofString "stops", PySem.Str.ofString "laid", PySem.Str.ofString "shown", PySem.Str.ofString "judged", PySem.Str.ofString "closed_cells", PySem.Str.ofString "left_ends", PySem.Str.ofString "begins_of", PySem.Str.ofString "line_of", PySem.Str.ofString "Sheet", PySem.Str.ofString "check_number", PySem.Str.ofString "check_fits", PySem.Str.ofString "moved", PySem.Str.ofString "FIRST", PySem.Str.ofString "Cursor", PySem.Str.ofString "row_spots", PySem.Str.ofString "page_spots", PySem.Str.ofString "written", PySem.Str.ofString "rows_of", PySem.Str.ofString "MOST_HANDS", PySem.Str.ofString "Table"]
def loose3 : List Str := [PySem.Str.ofString "marks_there", PySem.Str.ofString "those_there", PySem.Str.ofString "text_of", PySem.Str.ofString "first_there", PySem.Str.ofString "placed", PySem.Str.ofString "many_moved", PySem.Str.ofString "gap_within", PySem.Str.ofString "route", PySem.Str.ofString "ways", PySem.Str.ofString "stepped", PySem.Str.ofString "gone", PySem.Str.ofString "check_steps", PySem.Str.ofString "is_step", PySem.Str.ofString "_law_begun", PySem.Str.ofString "_law_take", PySem.Str.ofString "_law_alike", PySem.Str.ofString "_law_told", PySem.Str.ofString "_law_all", PySem.Str.ofString "_law_sign", PySem.Str.ofString "_law_cell"]
def loose4 : List Str := [PySem.Str.ofString "_law_row", PySem.Str.ofString "_law_page", PySem.Str.ofString "_law_style", PySem.Str.ofString "_law_bad_cell", PySem.Str.ofString "_law_bad_row", PySem.Str.ofString "_law_bad_page", PySem.Str.ofString "_law_doors"]
def looseL : List Str := loose0 ++ loose1 ++ loose2 ++ loose3 ++ loose4
theorem three {α β γ δ : Type} {o : Option α} {f : α → β} {g : α → γ} {h : α → δ} {a : β} {b : γ} {c : δ} (h1 : o.map f = some a) (h2 : o.map g = some b) (h3 : o.map h = some c) : o.map (fun x => (f x, g x, h x)) = some (a, b, c) := by
  cases o with
  | none => cases h1
  | some x =>
    have e1 : f x = a := Option.some.inj h1
    have e2 : g x = b := Option.some.inj h2
    have e3 : h x = c := Option.some.inj h3
    show some (f x, g x, h x) = _
    rw [e1, e2, e3]
open HandSHeadRun PySem PySem.W PySem.Calls PyProof.Rows in
noncomputable def endS (w : World) (os : OsState) : Option PySem.W.SharedT := endF (stepQ (denQ tabQ) hdRow.prog w) 9000 hdRow.prog w os
open HandSHeadRun PySem PySem.W PySem.Calls PyProof.Rows in
theorem hdRunA (w : World) (os : OsState) : (endS w os).map (fun s => looksF hdRow.prog (boot_heap w.params) s.abs) = some true := by
  kernel_rfl
open HandSHeadRun PySem PySem.W PySem.Calls PyProof.Rows in
theorem hdRunB (w : World) (os : OsState) : (endS w os).map (fun s => seenQ (PySem.W.view hdRow.prog [98]) looseL (importedModules hdRow.prog.main.body) (fun s => xlAt (PySem.W.view hdRow.prog [98]) [] s && recOk hdRow.toRowW.records s) s.abs) = some (openGood (PySem.W.view hdRow.prog [98]) looseL) := by
  kernel_rfl
theorem hdRunC (w : World) (os : OsState) : (endS w os).map hdOb = some (hdHk.val w) := by
  kernel_rfl
theorem hdRun (w : World) : HandSHeadRun.RunEq hdRow (PySem.W.view hdRow.prog [98]) hdHk hdOb 9000 looseL w := fun os => three (hdRunA w os) (hdRunB w os) (hdRunC w os)
end TG

namespace Gx
open PySem PySem.Spec PyProof.Rows L2 GenW
abbrev gE (X : Cx) (sc : Scope) (C : Addr) (code : Value) : Env :=
  genEnv sc (cloFrom X.env.cells sc.names []) C code builtinsNs X.env
/-- the context of the element -/
def gCx (X : Cx) (A : Around) (sc : Scope) (x : Str) (code : Value) (s4 : Shared) (H4 : Hp) (fp : List Addr) : Cx where
  prog := X.prog
  w := X.w
  K := X.K
  mg := X.mg
  base := X.base
  A := A.deeper (gE X sc s4.heap.objs.size code)
  N := [x]
  s_0 := s4
  H_0 := H4
  env := gE X sc s4.heap.objs.size code
  outer := X.stack
  stack := gE X sc s4.heap.objs.size code :: X.stack
  ex := fp
  fn := fun _ => false
  calm := true
  pn := []
  xe := fun _ _ => False
/-- the scope of a generator expression that captures nothing -/
structure GSc (sc : Scope) (x : Str) : Prop where
  kind : sc.kind = .function
  co : sc.isCoroutine = false
  cell : ∀ y ∈ sc.names, y.2 ≠ .cell
  free : ∀ y ∈ sc.names, y.2 ≠ .free
  dot : sc.names.lookup (".0" : Str) = some NameKind.local
  loc : sc.names.lookup x = some .local
section
variable {X : Cx} {pins : List (Addr × Obj)} {σ : L2.St} {H : Hp} {s : Shared} {A : Around} {sc : Scope} {x : Str} {code : Value} {fp : List Addr}
theorem no_cells (S : GSc sc x) (cells : List (Str × Addr)) {y : Str} {c : Addr} (h : (cloFrom cells sc.names []).lookup y = some c) : False := by
  rcases cloFrom_mem (PySem.mem_of_lookup h) with z | ⟨z, _⟩
  · cases z
  · exact S.free _ z rfl
theorem gx_inv (I : Inv X pins σ H s) (S : GSc sc x) (hd : A.handled = none) (hfr : A.frames = some X.stack) (hf : ∀ b ∈ fp, FpOk X pins H b)
    (hlt : ∀ b ∈ fp, b < s.heap.objs.size) {s5 : Shared} {m : Str → Option Value} (os : s5.os = s.os) (bare : AllBare s5.gens)
    (keep : ∀ b o, s.heap.get? b = some o → s5.heap.get? b = some o) (hns : s5.heap.Ns s.heap.objs.size m) :
    Inv (gCx X A sc x code s H fp) [] [none] H s5 := by
  have nc : ∀ {y : Str} {c : Addr}, (gCx X A sc x code s H fp).env.cells.lookup y = some c → False := fun {y c} h => no_cells S _ h
  refine ⟨⟨I.ok.mod, S.kind, I.ok.glob, rfl, Nat.le_refl _, fun y z c e _ => (nc e).elim, fun y hy => ?_, fun y c _ e => (nc e).elim, fun _ => hd,
      Around.frames_deeper hfr, .inr ⟨rfl, rfl⟩, fun b hb => ⟨Nat.ne_of_lt (hlt b hb), fun y c e => (nc e).elim⟩, I.bs, Nat.le_trans I.ok.bsz I.sz,
      fun b o e hb => ?_, fun b hb z => ?_, I.stack, I.stkFree⟩,
    os, bare, Un.kept keep, ⟨m, hns, fun i y v _ e2 _ => ?_⟩, fun y c e => (nc e).elim, I.hok.fresh (Nat.le_refl _), fun y c e => (nc e).elim,
    fun p hp => ?_, I.hok.kept keep, rfl⟩
  · rcases hy with z | z
    · exact absurd rfl (S.cell _ (PySem.mem_of_lookup (show sc.names.lookup y = some .cell from z)))
    · exact absurd rfl (S.free _ (PySem.mem_of_lookup (show sc.names.lookup y = some .free from z)))
  · rcases (hf b hb).2.2.2.1 with z | z
    · exact I.ok.noex b o e z
    · exact absurd (Nat.lt_of_lt_of_le (Heap.lt_size e) (Nat.le_trans I.ok.bsz z)) (Nat.lt_irrefl _)
  · rcases List.mem_cons.mp (I.stkSub b z) with q | q
    · exact (hf b hb).2.1 q
    · exact (hf b hb).2.2.1 q
  · match i, e2 with
    | 0, e2 => cases e2
    | i + 1, e2 => simp at e2
  · exact absurd (show p ∈ ([] : List (Addr × Obj)) from hp) (by simp)
/-- only the generators' states differ -/
theorem regens {s' : Shared} (I : Inv X pins σ H s) (os : s'.os = s.os) (hh : ∀ b o, s.heap.get? b = some o → s'.heap.get? b = some o) (hb : AllBare s'.gens) : Inv X pins σ H s' :=
  I.call' (ch := []) os (Un.kept hh) (I.hok.kept hh) hb fun b z => by simp at z
/-- the consumer's own list, if it has one -/
def Held (So : Option Addr) (Rel : Array Value → Prop) (ps : List (Addr × Obj)) : Prop :=
  match So with
  | none => ps = []
  | some S => ∃ acc c, ps = [(S, lstObj acc c)] ∧ Rel acc
structure Woke (So : Option Addr) (Rel : Array Value → Prop) (s s' : Shared) : Prop where
  os : s'.os = s.os
  bare : AllBare s'.gens
  keep : ∀ b o, So ≠ some b → s.heap.get? b = some o → s'.heap.get? b = some o
  own : ∀ S, So = some S → ∃ acc' c', s'.heap.get? S = some (lstObj acc' c') ∧ Rel acc'
theorem woken {Z : Cx} {q ps : List (Addr × Obj)} {So : Option Addr} {Rel Rel' : Array Value → Prop} {s' : Shared} (I : Inv Z (q ++ ps) σ H s) (hps : Held So Rel ps) (hq : ∀ p ∈ Z.pn ++ q, So ≠ some p.1)
    (hS : ∀ S, So = some S → Z.s_0.heap.objs.size ≤ S ∧ S ≠ Z.env.locals ∧ ∀ y c, Z.env.cells.lookup y = some c → c ≠ S) (k : Woke So Rel' s s') :
    ∃ ps', Held So Rel' ps' ∧ Inv Z (q ++ ps') σ H s' ∧ ∀ p ∈ ps', s'.heap.get? p.1 = some p.2 := by
  cases So with
  | none =>
    have e : ps = [] := hps
    subst e
    exact ⟨[], rfl, regens I k.os (fun b o e => k.keep b o (by simp) e) k.bare, fun p hp => by simp at hp⟩
  | some S =>
    obtain ⟨acc, c, e, _⟩ := hps
    subst e
    obtain ⟨h1, h2, h3, h4, _⟩ := I.pin (S, lstObj acc c) (List.mem_append_right _ (List.mem_append_right _ (List.mem_singleton.mpr rfl)))
    obtain ⟨acc', c', e', hR⟩ := k.own S rfl
    obtain ⟨g1, g2, g3⟩ := hS S rfl
    have I0 : Inv Z q σ H s := I.pins_of fun p hp => I.pin p (List.mem_append_right _ (List.mem_append_left _ hp))
    have nS : ∀ b u, H b = some u → b ≠ S := fun b u e z => by rw [z, h2] at e; cases e
    have kp : ∀ b o, b ≠ S → s.heap.get? b = some o → s'.heap.get? b = some o := fun b o hb e => k.keep b o (fun z => hb (Option.some.inj z).symm) e
    have ni : ∀ b : Addr, b ∉ [S] → b ≠ S := fun b hb e => hb (by rw [e]; exact List.mem_singleton.mpr rfl)
    have J : Inv Z q σ H s' := by
      refine I0.call' (ch := [S]) k.os ⟨fun b o e _ _ hx => kp b o (ni b hx) e, fun b o e _ _ hx => ⟨o.slots, kp b o (ni b hx) e⟩, fun _ _ _ n _ => n, fun b o e hx => ⟨o, kp b o (ni b hx) e⟩,
        fun _ _ e => e, fun _ _ _ e => e, fun _ _ e => ⟨#[], by rw [e]; simp⟩⟩ (fun b u e => ?_) k.bare fun b hb => ?_
      · refine (I0.hok b u e).stay (fun d v hd z => kp d v ?_ z) (fun _ z => z) fun _ _ z => z
        rcases hd with z | z
        · rw [z]; exact nS b u e
        · exact nS d _ z
      · have eb : b = S := List.mem_singleton.mp hb
        subst eb
        exact ⟨.inr g1, g2, g3, fun p hp z => hq p hp (by rw [z])⟩
    refine ⟨[(S, lstObj acc' c')], ⟨acc', c', rfl, hR⟩, J.pins_of fun p hp => ?_, fun p hp => by rw [List.mem_singleton.mp hp]; exact e'⟩
    rcases List.mem_append.mp hp with z | z
    · exact J.pin p (List.mem_append_right _ z)
    · rw [List.mem_singleton.mp z]
      exact ⟨e', h2, h3, h4, fun v z => by cases z⟩
abbrev WT := Nat → List V → Hp → Prop
/-- an item is handed out -/
def GYx (Z : Cx) (q : List (Addr × Obj)) (So : Option Addr) (Rel : List V → Array Value → Prop) (W : WT) (Ny : Nat → List V → V → Hp → Prop) : Protocol := fun n s₀ v s1 kap =>
  ∃ m ys y σ H ps, m < n + 1 ∧ RelV y v ∧ Held So (Rel ys) ps ∧ (∀ p ∈ ps, s₀.heap.get? p.1 = some p.2) ∧ Inv Z (q ++ ps) σ H s1 ∧ Ny m ys y H ∧ ∀ s', Woke So (Rel (ys ++ [y])) s1 s' → ∀ m', m' < m → W m' (ys ++ [y]) H → kap (.send .none) s'
def GFx (Z : Cx) (q : List (Addr × Obj)) (So : Option Addr) (Rel : List V → Array Value → Prop) (Ns : List V → Hp → Prop) (s₀ s1 : Shared) : Prop :=
  ∃ ys σ H ps, Held So (Rel ys) ps ∧ (∀ p ∈ ps, s₀.heap.get? p.1 = some p.2) ∧ Inv Z (q ++ ps) σ H s1 ∧ Ns ys H
abbrev GRx (Z : Cx) (q : List (Addr × Obj)) (So : Option Addr) (Rel : List V → Array Value → Prop) (Ns : List V → Hp → Prop) : GenEnd := fun n s₀ r s₁ =>
  ((r = .ok (.ret .none) ∨ r = .ok .next) ∧ (fun (_ : Nat) (t : Shared) s => GFx Z q So Rel Ns t s) n s₀ s₁) ∨ ∃ e, r = .error e ∧ (fun (_ : Value) (_ : Shared) => False) e s₁
theorem seg_turns {elt iter : Expr} {px : Pos} {pos : Pos} {it : Addr} {J : It} {tn : Nat → Heap → Prop} {te : TE} {W : WT} {Ny : Nat → List V → V → Hp → Prop} {Ns : List V → Hp → Prop} {s4 : Shared} {H4 : Hp}
    {q : List (Addr × Obj)} {So : Option Addr} {Rel : List V → Array Value → Prop}
    (S : GSc sc x) (T : Turn X.prog X.w X.K (.Name x px) J fp it tn)
    (stat : ∀ b ∈ fp, b ≠ s4.heap.objs.size ∧ b ∉ frs X.stack ∧ (∀ p ∈ q, p.1 ≠ b) ∧ So ≠ some b)
    (hq : ∀ p ∈ q, So ≠ some p.1) (hS : ∀ S', So = some S' → s4.heap.objs.size < S')
    (he : PE (gCx X A sc x code s4 H4 fp) elt te)
    (step : ∀ m ys H, W m ys H → (J.stop ys.length H ∧ Ns ys H) ∨ (J.go ys.length H ∧ ∀ v H', J.yld ys.length H v H' → te [some v] H' (Ny m ys))) :
    ∀ (n m : Nat) (ys : List V) (s₀ s : Shared) (σ : L2.St) (H : Hp) (ps : List (Addr × Obj)), m < n → Held So (Rel ys) ps → (∀ p ∈ ps, s₀.heap.get? p.1 = some p.2) → W m ys H → Inv (gCx X A sc x code s4 H4 fp) (q ++ ps) σ H s → tn ys.length s.heap → (∀ b ∈ fp, H b = none) →
      Seg (model X.prog X.w) A (GRx (gCx X A sc x code s4 H4 fp) q So Rel Ns) (GYx (gCx X A sc x code s4 H4 fp) q So Rel W Ny) n s₀
        (.compLoop (.GeneratorExp elt [⟨.Name x px, iter, [], 0⟩] sc pos) 0 (.ref it) .none (gE X sc s4.heap.objs.size code))
        ((model X.prog X.w).den (.compLoop (.GeneratorExp elt [⟨.Name x px, iter, [], 0⟩] sc pos) 0 (.ref it) .none (gE X sc s4.heap.objs.size code))) [] s := by
  have nc : ∀ {y : Str} {c : Addr}, (gCx X A sc x code s4 H4 fp).env.cells.lookup y = some c → False := fun {y c} h => no_cells S _ h
  intro n
  induction n with
  | zero => intro m _ _ _ _ _ _ hm; exact absurd hm (Nat.not_lt_zero _)
  | succ n ih =>
    intro m ys s₀ s σ H ps hm hps hs0 hW I htn hfn
    have fok : ∀ {H' : Hp}, (∀ b ∈ fp, H' b = none) → ∀ b ∈ fp, FpOk (gCx X A sc x code s4 H4 fp) (q ++ ps) H' b := fun {H'} hn b hb => by
      obtain ⟨a1, a2, a3, a4⟩ := stat b hb
      refine ⟨hn b hb, a1, a2, .inl hb, fun y c e => (nc e).elim, fun p hp => ?_⟩
      rcases List.mem_append.mp (show p ∈ q ++ ps from hp) with z | z
      · exact a3 p z
      · cases So with
        | none =>
          have e : ps = [] := hps
          rw [e] at z
          simp at z
        | some S' =>
          obtain ⟨acc, c, e, _⟩ := hps
          rw [e] at z
          rw [List.mem_singleton.mp z]
          exact fun w => a4 (by rw [← w])
    show Seg _ A _ _ _ s₀ _ ((compTurn (.GeneratorExp elt [⟨.Name x px, iter, [], 0⟩] sc pos) 0 (.ref it) .none (gE X sc s4.heap.objs.size code)).onRaise (leaving (gE X sc s4.heap.objs.size code))) [] s
    rw [compTurn_gen, Sem.onRaise_eq_wrap]
    refine seg_bind_wrap (wpAny_standAt ?_)
    rcases step m ys H hW with ⟨stop, qn⟩ | ⟨go, st⟩
    · refine seg_bind_wrap (thn (T.done (gCx X A sc x code s4 H4 fp) rfl rfl rfl rfl ys.length (q ++ ps) s σ H _ I (fok hfn) htn stop) fun r s5 ⟨hr, I5⟩ => ?_)
      subst hr
      exact seg_end (.ok .next) (.inl ⟨.inr rfl, ys, σ, H, ps, hps, hs0, I5, qn⟩)
    · refine seg_bind_wrap (thn (T.item (gCx X A sc x code s4 H4 fp) rfl rfl rfl rfl ys.length (q ++ ps) s σ H _ I (fok hfn) htn go) fun r s5 ⟨u, hr, h5⟩ => ?_)
      subst hr
      refine seg_bind_wrap (thn h5 fun _ s6 ⟨v, H6, I6, r6, y6, tn6, fn6⟩ => ?_)
      have I6' := I6.pinned (fok fn6) (T.obj _ _ tn6)
      have pg : PG (gCx X A sc x code s4 H4 fp) (.Name x px) (gName 0) := pg_name (i := 0) (List.nodup_cons.mpr ⟨by simp, List.nodup_nil⟩) rfl (.inl S.loc) (.inr S.loc)
      have eσ : σ.set 0 (some v) = [some v] := by
        have hl : σ.length = 1 := I.len
        match σ, hl with
        | [_], _ => rfl
      refine seg_bind_wrap (wpAny_mono (pg.run _ s6 σ H6 v u (fun σ' H' => σ' = [some v] ∧ H' = H6) I6' r6 ⟨eσ, rfl⟩) (fun _ s7 h7 => ?_) fun _ _ z => z.elim)
      obtain ⟨σ7, H7, I7, eσ7, eH7⟩ := h7
      subst eσ7 eH7
      simp only [List.forIn_nil]
      refine seg_bind_wrap (wpAny_pure ?_)
      simp only [if_true]
      have hy : ∀ v, yieldOut (gE X sc s4.heap.objs.size code) v = yieldValue v := fun v => by
        simp only [yieldOut, show (gE X sc s4.heap.objs.size code).scope.isCoroutine = false from S.co, Bool.false_eq_true, if_false]
      simp only [hy]
      rw [Sem.bind_eq_wrap', Sem.bind_eq_wrap', Sem.wrap_wrap, Sem.wrap_wrap]
      refine seg_wrap (wpAny_mono (he.run _ s7 [some v] H7 _ I7 (st v H7 y6)) (fun w s8 h8 => ?_) fun _ _ z => z.elim)
      obtain ⟨y, H8, I8, r8, ny⟩ := h8
      have fn8 : ∀ b ∈ fp, H8 b = none := fun b hb => by
        obtain ⟨o, e, d⟩ := T.obj _ _ tn6 b hb
        exact (I8.pin (b, o) (List.mem_append_right _ (List.mem_append_right _ (mem_pinsAt hb e)))).2.1
      have tn8 : tn (ys.length + 1) s8.heap := T.keep _ _ _ tn6 fun b hb o e => (I8.pin (b, o) (List.mem_append_right _ (List.mem_append_right _ (mem_pinsAt hb e)))).1
      refine seg_at (seg_yield rfl rfl rfl ⟨m, ys, y, [some v], H8, ps, hm, r8, hps, hs0, I8.unpinned, ny, fun s9 wk m' hm' w' => ?_⟩)
      obtain ⟨ps', hps', I9, e9⟩ := woken I8.unpinned hps (fun p hp => hq p hp) (fun S' e => ⟨Nat.le_of_lt (hS S' e), Nat.ne_of_gt (hS S' e), fun y c e => (nc e).elim⟩) wk
      refine seg_again rfl (ih m' (ys ++ [y]) s9 s9 [some v] H8 ps' (by omega) hps' e9 w' I9 ?_ fn8)
      rw [List.length_append, List.length_singleton]
      exact T.keep _ _ _ tn8 fun b hb o e => wk.keep b o (stat b hb).2.2.2 e
end
end Gx
namespace Gx
open PySem PySem.Spec PyProof.Rows L2 GenW
section
variable {X : Cx} {pins : List (Addr × Obj)} {σ : L2.St} {H : Hp} {s : Shared} {sc : Scope} {x : Str}
theorem seg_begin {A : Around} {elt iter : Expr} {px pos : Pos} {it : Addr} {J : It} {fp : List Addr} {tn : Nat → Heap → Prop} {cenv : Env} {R : GenEnd} {Y : Protocol} {n : Nat} {s₀ : Shared}
    (T : Turn X.prog X.w X.K (.Name x px) J fp it tn) (ht : tn 0 s.heap)
    (loop : Seg (model X.prog X.w) A R Y n s₀ (.compLoop (.GeneratorExp elt [⟨.Name x px, iter, [], 0⟩] sc pos) 0 (.ref it) .none cenv) ((model X.prog X.w).den (.compLoop (.GeneratorExp elt [⟨.Name x px, iter, [], 0⟩] sc pos) 0 (.ref it) .none cenv)) [] s) :
    Seg (model X.prog X.w) A R Y n s₀ (.compStart (.GeneratorExp elt [⟨.Name x px, iter, [], 0⟩] sc pos) 0 (.ref it) .none cenv) ((model X.prog X.w).den (.compStart (.GeneratorExp elt [⟨.Name x px, iter, [], 0⟩] sc pos) 0 (.ref it) .none cenv)) [] s := by
  show Seg _ A R Y n s₀ _ ((compStart (.GeneratorExp elt [⟨.Name x px, iter, [], 0⟩] sc pos) 0 (.ref it) .none cenv).onRaise (leaving cenv)) [] s
  unfold compStart
  rw [Sem.onRaise_eq_wrap]
  show Seg _ A R Y n s₀ _ ((ask >>= _).wrap _ _ _ _) [] s
  refine seg_bind_wrap (wpAny_askSetting ?_)
  split
  · exact seg_again rfl loop
  · first
      | exact seg_bind_wrap (wpAny_rule (seg_bind_wrap (wpAny_standAt (seg_bind_wrap (T.self _ 0 s _ _ ht (seg_again rfl loop))))))
      | (refine seg_bind_wrap (wpAny_rule ?_); show Seg _ A R Y n s₀ _ ((standAt iter.pos >>= _).wrap _ _ _ _) [] s; exact seg_bind_wrap (wpAny_standAt (seg_bind_wrap (T.self _ 0 s _ _ ht (seg_again rfl loop)))))
/-- the reading of a generator expression: W the state between two turns, by a measure, what was handed out, the heap -/
def tGen (P : Addr) (wi : TI) (te : TE) (NyOf : WT → Nat → List V → V → Hp → Prop) (Ns : List V → Hp → Prop) : L2.St → Hp → Prop := fun σ H =>
  wi σ H fun J H1 => GxR.TabG H1 P ∧ ∀ H2, GxR.Tabbed P H1 H2 → ∃ W : WT, (∃ m, W m [] H2) ∧ ∀ m ys H, W m ys H →
    (J.stop ys.length H ∧ Ns ys H) ∨ (J.go ys.length H ∧ ∀ v H', J.yld ys.length H v H' → te [some v] H' (NyOf W m ys))
theorem code_step {A : Around} {E : Value → Shared → Prop} {Q : Value → Shared → Prop} {c P : Addr} {gpos : Pos} (I : Inv X pins σ H s) (TB : GxR.TabB X.base X.mg c P) (hcode : X.env.code = .ref c) (hT : GxR.TabG H P)
    (h : ∀ (code : Value) (H3 : Hp) (s3 : Shared), GxR.Tabbed P H H3 → Inv X pins σ H3 s3 → (∀ b o, b ≠ P → s.heap.get? b = some o → s3.heap.get? b = some o) → Q code s3) :
    wpAny (model X.prog X.w) A (genexprCode X.env gpos (X.env.qual ++ "<genexpr>") sc) Q E s := by
  obtain ⟨ps, hP, ht⟩ := id hT
  have hPs : s.heap.get? P = some { cls := .none, data := .fields ps } := I.hok P _ hP
  have cd : PySem.W.CodeHd s.heap c P := TB.code.keeps I.bk
  cases hf : codeAmong gpos ps.toList with
  | none =>
    refine wpAny_genexprCodeX hcode (cd.code hPs ht) (cd.tab hPs) hf fun c' h' tk hx hge hlt hco' _ htab' _ => ?_
    obtain ⟨o1, vs, f1, tf, fl, tg, inF, tx, tt, op, _, _, _, _, _, _, _, _, _, htr, _⟩ := hco'
    have J := GxR.inv_tab (t' := tk) (g' := s.gens) (d' := s.drawn) I hP (fun b o hb e => hx b o hb e) htab'.2 I.bare
    exact h _ _ _ ⟨⟨_, upd_same, htr⟩, fun b hb => upd_ne hb⟩ J fun b o hb e => hx b o hb e
  | some cv =>
    refine wpAny_genexprCode_hit hcode (cd.code hPs ht) hf ?_
    exact h _ H s ⟨hT, fun _ _ => rfl⟩ I fun _ _ _ e => e
end
end Gx
namespace Gx
open PySem PySem.Spec PyProof.Rows L2 GenW
section
variable {X : Cx} {pins : List (Addr × Obj)} {σ : L2.St} {H : Hp} {s : Shared} {sc : Scope} {x : Str}
/-- a generator that has not begun, at a in s5 -/
def Begun1 (X : Cx) (pins : List (Addr × Obj)) (σ : L2.St) (k : Nat) (Rel : List V → Array Value → Prop) (NyOf : WT → Nat → List V → V → Hp → Prop) (Ns : List V → Hp → Prop) (a : Addr) (s5 : Shared) : Prop :=
  ∃ (g : Nat) (c : Code) (H4 : Hp), s5.heap.IsGen a g ∧ s5.gens[g]? = some (.fresh c) ∧ Inv X pins σ H4 s5 ∧ a < s5.heap.objs.size ∧
    ∀ (A : Around) (So : Option Addr) (s6 : Shared), Room (k + 1) A → A.frames = some X.stack → (∀ S, So = some S → s5.heap.objs.size ≤ S ∧ ∃ acc c, s6.heap.get? S = some (lstObj acc c) ∧ Rel [] acc) →
      (∀ b o, s5.heap.get? b = some o → s6.heap.get? b = some o) → s6.os = s5.os → AllBare s6.gens →
      ∃ (Z : Cx) (q : List (Addr × Obj)) (W : WT) (m0 : Nat),
        (∀ ps σz Hz s7, Inv Z (q ++ ps) σz Hz s7 → Inv X pins σ Hz s7 ∧ s7.heap.IsGen a g) ∧
        Seg (model X.prog X.w) A (GRx Z q So Rel Ns) (GYx Z q So Rel W (NyOf W)) (m0 + 1) s6 c ((model X.prog X.w).den c) [] s6
theorem gx_make {elt iter : Expr} {px gpos : Pos} {c P : Addr} {wi : TI} {te : TE} {k j : Nat} {Rel : List V → Array Value → Prop} {NyOf : WT → Nat → List V → V → Hp → Prop} {Ns : List V → Hp → Prop} {Q' : Value → Shared → Prop}
    (hr : Room j X.A) (TB : GxR.TabB X.base X.mg c P) (hcode : X.env.code = .ref c) (S : GSc sc x) (hi : PI X (.Name x px) iter wi)
    (he : ∀ (A : Around) (code : Value) (s4 : Shared) (H4 : Hp) (fp : List Addr), Room k (A.deeper (gE X sc s4.heap.objs.size code)) → PE (gCx X A sc x code s4 H4 fp) elt te)
    (hs : ∀ v, genFold iter X.env v = pure v) (I : Inv X pins σ H s) (h : tGen P wi te NyOf Ns σ H)
    (hQ : ∀ a s5, Begun1 X pins σ k Rel NyOf Ns a s5 → Q' (.ref a) s5) :
    wpAny (model X.prog X.w) X.A (eval (.GeneratorExp elt [⟨.Name x px, iter, [], 0⟩] sc gpos) X.env) Q' X.xe s := by
  refine wpAny_GeneratorExp_make S.co (closure_ok fun y hy z => absurd z (S.free y hy)) S.cell S.dot S.kind hr.depth ?_ hs
  refine thn (hi.run pins s σ H _ I h) fun xv s1 h1 => thn h1 fun itv s2 h2 => ?_
  obtain ⟨it, fp, tn, J, H2, e, I2, T, st2, f2, hT, hW⟩ := h2
  subst e
  refine ⟨I2.nolimit, code_step I2 TB hcode hT fun code H3 s3 hTb I3 kp3 => ?_⟩
  obtain ⟨bm, ob, e1, e2, e3, e4, e5, e6, e7, e8⟩ := TB.bm
  refine wpAny_builtinsFor (m := X.mg) (by rw [I3.ok.glob]; exact I3.mod.glob.keeps I3.bk) e1 e2 (I3.bk _ _ e5) e6 e7 e8 fun h' hn' hs' => ?_
  obtain ⟨W, ⟨m0, w0⟩, step⟩ := hW H3 hTb
  have hTP : H2 P ≠ none := by
    obtain ⟨ps, z, _⟩ := hT
    rw [z]; exact fun q => nomatch q
  have nP : ∀ b ∈ fp, b ≠ P := fun b hb z => hTP (by rw [← z]; exact (f2 b hb).1)
  have f3 : ∀ b ∈ fp, FpOk X pins H3 b := fun b hb => ⟨(hTb.2 b (nP b hb)).trans (f2 b hb).1, (f2 b hb).2⟩
  have tn3 : tn 0 s3.heap := T.keep _ _ _ st2 fun b hb o q => kp3 b o (nP b hb) q
  have lt3 : ∀ b ∈ fp, b < s3.heap.objs.size := fun b hb => by
    obtain ⟨o, q, _⟩ := T.obj _ _ tn3 b hb
    exact Heap.lt_size q
  have hsz : h'.objs.size = s3.heap.objs.size + 1 := by rw [hs'.1, Heap.size_push]
  have kp' : ∀ b o, s3.heap.get? b = some o → h'.get? b = some o := fun b o q => hs'.extBut b o (Nat.ne_of_lt (Heap.lt_size q)) (Heap.get?_push_of_some _ q)
  refine hQ _ _ ⟨s3.gens.size, _, H3, ⟨_, _, _, Heap.get?_push_size _ rfl, rfl, rfl, rfl⟩, Array.getElem?_push_size .., ?_, ?_, fun A So s6 hrA hfr hSo kp6 os6 b6 => ?_⟩
  · exact regens I3 rfl (fun b o q => Heap.get?_push_of_some _ (kp' b o q)) (AllBare.push I3.bare rfl)
  · show h'.objs.size < (h'.push _).objs.size
    rw [Heap.size_push]; exact Nat.lt_succ_self _
  · have kp36 : ∀ b o, s3.heap.get? b = some o → s6.heap.get? b = some o := fun b o q => kp6 b o (Heap.get?_push_of_some _ (kp' b o q))
    have hns6 : s6.heap.Ns s3.heap.objs.size (fun y => if y = ".0" then some (.ref it) else none) := by
      obtain ⟨o, es, ep, ho, r⟩ := hn'
      exact ⟨o, es, ep, kp6 _ _ (Heap.get?_push_of_some _ ho), r⟩
    have IZ := gx_inv (code := code) (A := A) I3 S hrA.hd hfr f3 lt3 (s5 := s6) os6 b6 kp36 hns6
    have big : ∀ b, s3.heap.objs.size < b → H3 b = none ∧ b ≠ s3.heap.objs.size ∧ b ∉ frs X.stack := fun b hb => by
      refine ⟨I3.hok.fresh (Nat.le_of_lt hb), Nat.ne_of_gt hb, fun z => ?_⟩
      rcases List.mem_cons.mp (I3.stkSub b z) with w | w
      · exact absurd (Nat.lt_trans (by rw [w]; exact I3.lt) hb) (Nat.lt_irrefl _)
      · exact I3.nofs (Nat.le_of_lt hb) w
    have ha : s3.heap.objs.size < h'.objs.size := by rw [hsz]; exact Nat.lt_succ_self _
    have hga := kp6 h'.objs.size _ (Heap.get?_push_size _ rfl)
    have hSb : ∀ S', So = some S' → h'.objs.size < S' := fun S' z => by
      have q := (hSo S' z).1
      have q' : (h'.push _).objs.size ≤ S' := q
      rw [Heap.size_push] at q'
      exact q'
    obtain ⟨ps, hps, IZ2⟩ : ∃ ps, Held So (Rel []) ps ∧ Inv (gCx X A sc x code s3 H3 fp) ([(h'.objs.size, _)] ++ ps) [none] H3 s6 := by
      cases So with
      | none =>
        refine ⟨[], rfl, IZ.pins_of fun p hp => ?_⟩
        rw [List.append_nil] at hp
        rw [List.mem_singleton.mp hp]
        obtain ⟨b1, b2, b3⟩ := big _ ha
        exact ⟨hga, b1, b2, b3, fun v z => by cases z⟩
      | some S' =>
        obtain ⟨_, acc, cc, q2, hR⟩ := hSo S' rfl
        refine ⟨[(S', lstObj acc cc)], ⟨acc, cc, rfl, hR⟩, IZ.pins_of fun p hp => ?_⟩
        rcases List.mem_append.mp hp with z | z
        · rw [List.mem_singleton.mp z]
          obtain ⟨b1, b2, b3⟩ := big _ ha
          exact ⟨hga, b1, b2, b3, fun v z => by cases z⟩
        · rw [List.mem_singleton.mp z]
          obtain ⟨b1, b2, b3⟩ := big _ (Nat.lt_trans ha (hSb S' rfl))
          exact ⟨q2, b1, b2, b3, fun v z => by cases z⟩
    have hSne : ∀ b, b ≤ h'.objs.size → So ≠ some b := fun b hb z => absurd (Nat.lt_of_lt_of_le (hSb b z) hb) (Nat.lt_irrefl _)
    refine ⟨gCx X A sc x code s3 H3 fp, [(h'.objs.size, { cls := .type "generator", data := .fields #[.int s3.gens.size 0, .str "<genexpr>" (s3.toks + 1), .str (X.env.qual ++ "<genexpr>") (s3.toks + 1 + 1)] })], W, m0, fun ps σz Hz s7 J7 => ⟨?_, ?_⟩, ?_⟩
    · refine I3.call' (ch := fp) J7.os J7.base J7.hok J7.bare fun b hb => ?_
      obtain ⟨_, a2, _, a4, a5, a6⟩ := f3 b hb
      exact ⟨a4, a2, a5, a6⟩
    · exact ⟨_, _, _, (J7.pin _ (List.mem_append_right _ (List.mem_append_left _ (List.mem_singleton.mpr rfl)))).1, rfl, rfl, rfl⟩
    · refine seg_begin T (T.keep _ _ _ tn3 fun b hb o q => kp36 b o q) ?_
      refine seg_turns S T (fun b hb => ⟨Nat.ne_of_lt (lt3 b hb), fun z => ?_, fun p hp z => ?_, hSne b (Nat.le_of_lt (Nat.lt_trans (lt3 b hb) ha))⟩) (fun p hp => ?_) (fun S' z => Nat.lt_trans ha (hSb S' z)) (he A code s3 H3 fp (hrA.deeper _)) step
        (m0 + 1) m0 [] s6 s6 [none] H3 ps (Nat.lt_succ_self _) hps (fun p hp => (IZ2.pin p (List.mem_append_right _ (List.mem_append_right _ hp))).1) w0 IZ2 (T.keep _ _ _ tn3 fun b hb o q => kp36 b o q) fun b hb => (f3 b hb).1
      · rcases List.mem_cons.mp (I3.stkSub b z) with w | w
        · exact (f3 b hb).2.1 w
        · exact (f3 b hb).2.2.1 w
      · rw [List.mem_singleton.mp hp] at z
        have q : h'.objs.size = b := z
        exact absurd (Nat.lt_trans (lt3 b hb) ha) (by rw [q]; exact Nat.lt_irrefl _)
      · rw [List.mem_singleton.mp hp]
        exact hSne _ (Nat.le_refl _)
end
end Gx
namespace Gx
open PySem PySem.Spec PyProof.Rows L2 GenW
section
variable {X : Cx} {pins : List (Addr × Obj)} {σ : L2.St} {H : Hp} {s : Shared} {sc : Scope} {x : Str}
def NyAll (Qb : Bool → Hp → Prop) (W : WT) : Nat → List V → V → Hp → Prop := fun m ys y H => ∃ b : Bool, y = .bl b ∧ if b = true then ∃ m', m' < m ∧ W m' (ys ++ [y]) H else Qb false H
abbrev noRel : List V → Array Value → Prop := fun _ _ => True
theorem all_turns {Z : Cx} {q : List (Addr × Obj)} {W : WT} {Qb : Bool → Hp → Prop} {A : Around} {a : Addr} {g : Nat} {Rr : Result → Shared → Prop} (hh : A.handled = none) (hd : A.depth < recursionLimit)
    (fin : ∀ ps σz Hz s7, Inv Z (q ++ ps) σz Hz s7 → Inv X pins σ Hz s7 ∧ s7.heap.IsGen a g)
    (hdone : ∀ b H' s', Inv X pins σ H' s' → Qb b H' → Rr (.ok (.ret (.bool b))) s') :
    ∀ (n : Nat) (s : Shared), s.heap.IsGen a g → s.heap.NoLimit →
      (∃ gs, s.gens[g]? = some gs ∧ gs.Goes (model X.prog X.w) A.in1.in1 (GRx Z q none noRel fun _ => Qb true) (GYx Z q none noRel W (NyAll Qb W)) n (.send .none) (s.setGen g .running)) →
      codeAny (model X.prog X.w) A (.builtin "all.loop" ⟨[.ref a], []⟩) Rr s := by
  intro n
  induction n using Nat.strongRecOn with
  | ind n ih =>
    intro s hg hl ⟨gs, hgs, hgo⟩
    have hgl : g < s.gens.size := (Array.getElem?_eq_some_iff.mp hgs).1
    refine codeAny_builtin F.entry_all_loop ?_; rw [Around.under_plainId F.plain_all_loop _]
    show wpAny _ A.in1 (pyNext (.ref a) >>= _) _ _ s
    refine wpAny_bind (wpAny_gsz (n := g + 1) hgl (next_genG (A := A.in1) hh hl hd hg hgs hgo (fun v s₁ gs' hbare hv => ?_) (fun s₁ hp h' hk => ?_) fun e s₁ he => he.elim))
    · intro hsz
      obtain ⟨m, ys, y, σz, Hz, ps, hm, rv, hps, _, J, ⟨b, eb, hb⟩, hkap⟩ := hv
      subst eb
      have eps : ps = [] := hps
      subst eps
      have ev : v = Value.bool b := rv
      subst ev
      obtain ⟨I1, g1⟩ := fin _ _ _ _ J
      have hsz1 : g < s₁.gens.size := by
        have q1 : (s₁.setGen g gs').gens.size = s₁.gens.size := setGen_size _ _ _
        have q2 : g + 1 ≤ (s₁.setGen g gs').gens.size := hsz
        omega
      have bare2 : AllBare (s₁.setGen g gs').gens := allBare_setGen I1.bare hbare
      refine wpAny_bind (wpAny_holding (wpAny_truthy_bool ?_))
      refine wpAny_bind (wpAny_letGo ?_)
      cases b with
      | true =>
        obtain ⟨m', hm', hw⟩ : ∃ m', m' < m ∧ W m' (ys ++ [V.bl true]) Hz := by simpa using hb
        simp only [if_true]
        cases n with
        | zero => omega
        | succ n =>
          refine wpAny_pure ⟨plainId_quiet F.plain_all_loop _, ih n (Nat.lt_succ_self n) (s₁.setGen g gs') g1 I1.nolimit ⟨gs', setGen_at hsz1, ?_⟩⟩
          exact hkap ((s₁.setGen g gs').setGen g .running) ⟨rfl, allBare_setGen bare2 rfl, fun b o _ e => e, fun S z => by cases z⟩ m' hm' hw
      | false =>
        have hq : Qb false Hz := by simpa using hb
        simp only [Bool.false_eq_true, if_false]
        exact wpAny_bind (wpAny_rule (wpAny_pure (hdone false Hz _ (regens I1 rfl (fun _ _ e => e) bare2) hq)))
    · intro hsz
      obtain ⟨ys, σz, Hz, ps, hps, _, J, hq⟩ := hp
      have eps : ps = [] := hps
      subst eps
      obtain ⟨I1, g1⟩ := fin _ _ _ _ J
      exact wpAny_bind (wpAny_rule (wpAny_pure (hdone true Hz _ (regens I1 rfl (fun b o e => hk b o e) (allBare_setGen I1.bare rfl)) hq)))
/-- all(elt for x in iter) -/
def tAllG (P : Addr) (wi : TI) (te : TE) : TE := fun σ H Q => tGen P wi te (NyAll fun b H => Q (.bl b) H) (fun _ H => Q (.bl true) H) σ H
theorem pe_allG {elt iter : Expr} {px p pos gpos : Pos} {c P : Addr} {wi : TI} {te : TE} {k : Nat}
    (hr : Room (k + 3) X.A) (hg : Gl X "all") (hm : X.mg "all" = none) (TB : GxR.TabB X.base X.mg c P) (hcode : X.env.code = .ref c) (S : GSc sc x) (hi : PI X (.Name x px) iter wi)
    (he : ∀ (A : Around) (code : Value) (s4 : Shared) (H4 : Hp) (fp : List Addr), Room k (A.deeper (gE X sc s4.heap.objs.size code)) → PE (gCx X A sc x code s4 H4 fp) elt te)
    (hs : ∀ v, genFold iter X.env v = pure v)
    (hst : starEach [.GeneratorExp elt [⟨.Name x px, iter, [], 0⟩] sc gpos] X.env = (false, eval (.GeneratorExp elt [⟨.Name x px, iter, [], 0⟩] sc gpos) X.env) :: starEach [] X.env := by rfl) :
    PE X (.Call (.Name "all" p) [.GeneratorExp elt [⟨.Name x px, iter, [], 0⟩] sc gpos] [] pos) (tAllG P wi te) := by
  refine ⟨fun pins s σ H Q I h => ?_⟩
  have hb : bootBuiltins "all" = some (.builtin "all") := by decide +kernel
  refine wpAny_Call_Name_kw (ld_blt I hg hm hb (PyProof.Rows.callWith_builtin1 ?_ hst (by rfl)))
  rw [hst]
  show wpAny _ _ (spliced ((false, eval (.GeneratorExp elt [⟨.Name x px, iter, [], 0⟩] sc gpos) X.env) :: backTo pos (starEach [] X.env))) _ _ s
  refine Calls.spliced_cons (gx_make (k := k) (Rel := noRel) hr TB hcode S hi he hs I h fun a s5 hB => Calls.spliced_nil ?_)
  obtain ⟨g, cd, H4, hgen, hfresh, I5, ha, wake⟩ := hB
  refine call_function_tree F.kind_all F.plain_all F.entry_all (F.args_all1 _) ?_
  unfold Builtin.«all»
  refine wpAny_bind (m := oneArg "all" _) (wpAny_pure (wpAny_bind (wpAny_pyIter_gen hgen ?_)))
  obtain ⟨Z, q, W, m0, fin, seg⟩ := wake X.A.in1.in1 none (s5.setGen g .running) ((hr.mono (by omega : k + 1 + 1 + 1 ≤ k + 3)).in1.in1) I.ok.frames (fun S z => by cases z) (fun _ _ e => e) rfl (allBare_setGen I5.bare rfl)
  refine wpAny_pure ⟨plainId_quiet F.plain_all_loop _, all_turns (Qb := fun b H => Q (.bl b) H) hr.hd hr.depth fin (fun b H' s' I' hq => ?_) (m0 + 1) s5 hgen I5.nolimit ⟨_, hfresh, rfl, seg⟩⟩
  exact ⟨.bl b, H', I', rfl, hq⟩
end
end Gx
namespace Gx
open PySem PySem.Spec PyProof.Rows L2 GenW
section
variable {X : Cx} {pins : List (Addr × Obj)} {σ : L2.St} {H : Hp} {s : Shared} {sc : Scope} {x : Str}
theorem cmp_gt {prog : Program} {w : World} {A : Around} {E : Value → Shared → Prop} {i j : Int} {t u : Tok} {Q : Value → Shared → Prop} (h : Q (.bool (decide (i > j))) s) :
    wpAny (model prog w) A (richCompare .Gt (.int i t) (.int j u)) Q E s :=
  CmpOf.ints_gt (P := fun n v => ∃ t, v = .int (if n = 0 then i else j) t) (fun n => if n = 0 then i else j) (fun _ _ h => h) 0 1 _ _ s Q E ⟨t, rfl⟩ ⟨u, rfl⟩ h
def NyMax (W : WT) : Nat → List V → V → Hp → Prop := fun m ys y H => ∃ i : Int, y = .int i ∧ ∃ m', m' < m ∧ W m' (ys ++ [y]) H
theorem MaxRel.last {b : Int} {u : Tok} {ys : List V} {Qm : Int → Hp → Prop} (h : MaxRel ys #[.int b u, .int b u]) (q : NsMax Qm ys H) : Qm b H := by
  obtain ⟨ns, rfl, h | ⟨b', u', e, hb, hm⟩⟩ := h
  · have := congrArg Array.size h.2
    simp at this
  · have e' : b = b' := by
      have := congrArg (fun a : Array Value => a[0]?) e
      simp at this
      exact this.1
    subst e'
    obtain ⟨ms, e1, _, hq⟩ := q
    rw [map_int_inj e1] at hb hm
    exact hq b hb hm
/-- what stands at the consumer's list is what it read -/
theorem held_eq {S : Addr} {Rel : Array Value → Prop} {ps : List (Addr × Obj)} {s₀ : Shared} {acc : Array Value} {c : Nat} (hps : Held (some S) Rel ps) (h0 : ∀ p ∈ ps, s₀.heap.get? p.1 = some p.2) (hS : s₀.heap.get? S = some (lstObj acc c)) :
    ps = [(S, lstObj acc c)] ∧ Rel acc := by
  obtain ⟨acc', c', e, hR⟩ := hps
  subst e
  have q := h0 _ (List.mem_singleton.mpr rfl)
  rw [hS] at q
  injection q with q
  have q1 : (Data.seq acc c : Data) = Data.seq acc' c' := congrArg Obj.data q
  injection q1 with q1 q2
  subst q1 q2
  exact ⟨rfl, hR⟩
theorem max_turns {Z : Cx} {q : List (Addr × Obj)} {W : WT} {Qm : Int → Hp → Prop} {A : Around} {a S : Addr} {g : Nat} {Rr : Result → Shared → Prop} (hh : A.handled = none) (hd : A.depth < recursionLimit) (hSa : S ≠ a) (hSc : S ≠ cStatics)
    (fin : ∀ ps σz Hz s7, Inv Z (q ++ ps) σz Hz s7 → Inv X pins σ Hz s7 ∧ s7.heap.IsGen a g)
    (hin : ∀ (ps : List (Addr × Obj)) σz Hz s7 acc c s8, Inv Z (q ++ ps) σz Hz s7 → ps = [(S, lstObj acc c)] → (∀ b o, b ≠ S → s7.heap.get? b = some o → s8.heap.get? b = some o) → s8.os = s7.os → AllBare s8.gens → Inv X pins σ Hz s8)
    (hdone : ∀ b t H' s', Inv X pins σ H' s' → Qm b H' → Rr (.ok (.ret (.int b t))) s') :
    ∀ (n : Nat) (s : Shared) (acc : Array Value) (c : Nat), (acc = #[] ∨ ∃ b t, acc = #[.int b t, .int b t]) → s.heap.get? S = some (lstObj acc c) → s.heap.IsGen a g → s.heap.NoLimit →
      (∃ gs, s.gens[g]? = some gs ∧ gs.Goes (model X.prog X.w) A.in1.in1 (GRx Z q (some S) MaxRel (NsMax Qm)) (GYx Z q (some S) MaxRel W (NyMax W)) n (.send .none) (s.setGen g .running)) →
      codeAny (model X.prog X.w) A (.builtin "max.loop" ⟨[.ref a, .none, .ref S], []⟩) Rr s := by
  have hname : (toString "max" ++ toString ".loop" : String) = "max.loop" := by decide
  intro n
  induction n using Nat.strongRecOn with
  | ind n ih =>
    intro s acc c hacc hS hg hl ⟨gs, hgs, hgo⟩
    have hgl : g < s.gens.size := (Array.getElem?_eq_some_iff.mp hgs).1
    refine codeAny_builtin F.entry_max_loop ?_; rw [Around.under_plainId F.plain_max_loop _]
    show wpAny _ A.in1 (seqItems? (.ref S) >>= _) _ _ s
    refine wpAny_bind (wpAny_seqItems hS rfl ?_)
    have turn : ∀ (v : Value) (s₁ : Shared) (gs' : GenState) (m : Nat) (ys : List V) (i : Int) (t : Tok) (Hz : Hp) (σz : L2.St) (ps : List (Addr × Obj)) (acc2 : Array Value), g < s₁.gens.size → gs'.bare = true → v = .int i t → m < n + 1 → ps = [(S, lstObj acc c)] → Inv Z (q ++ ps) σz Hz s₁ →
        (∃ m', m' < m ∧ W m' (ys ++ [.int i]) Hz) → MaxRel (ys ++ [.int i]) acc2 → (∃ b t, acc2 = #[.int b t, .int b t]) →
        (∀ s', Woke (some S) (MaxRel (ys ++ [.int i])) s₁ s' → ∀ m', m' < m → W m' (ys ++ [.int i]) Hz → (match (generalizing := false) n with | 0 => False | k + 1 => gs'.Goes (model X.prog X.w) A.in1.in1 (GRx Z q (some S) MaxRel (NsMax Qm)) (GYx Z q (some S) MaxRel W (NyMax W)) k (.send .none) s')) →
        ∀ (s2 : Shared) (c2 : Nat), s2.heap.get? S = some (lstObj acc2 c2) → (∀ b o, b ≠ S → s₁.heap.get? b = some o → s2.heap.get? b = some o) → s2.os = s₁.os → s2.gens = (s₁.setGen g gs').gens →
          codeAny (model X.prog X.w) A (.builtin "max.loop" ⟨[.ref a, .none, .ref S], []⟩) Rr s2 := by
      intro v s₁ gs' m ys i t Hz σz ps acc2 hsz hbare _ hm hps J ⟨m', hm', hw⟩ hR hacc2 hkap s2 c2 hS2 k2 os2 gens2
      cases n with
      | zero => omega
      | succ n =>
        obtain ⟨I1, g1⟩ := fin _ _ _ _ J
        have bare2 : AllBare (s₁.setGen g gs').gens := allBare_setGen I1.bare hbare
        have I2 := hin _ _ _ _ _ _ s2 J hps k2 os2 (by rw [gens2]; exact bare2)
        have size2 : g < s2.gens.size := by
          rw [gens2, setGen_size]; exact hsz
        refine ih n (Nat.lt_succ_self n) s2 acc2 c2 (.inr hacc2) hS2 ?_ I2.nolimit ⟨gs', ?_, ?_⟩
        · obtain ⟨o, nm, qn, ho, r⟩ := g1
          exact ⟨o, nm, qn, k2 a o (Ne.symm hSa) ho, r⟩
        · rw [gens2]; exact setGen_at hsz
        · refine hkap (s2.setGen g .running) ⟨os2, allBare_setGen I2.bare rfl, fun b o hb e => k2 b o (fun z => hb (by rw [z])) e, fun S' z => ?_⟩ m' hm' hw
          cases z
          exact ⟨acc2, c2, hS2, hR⟩
    have nx : ∀ (Q : Option Value → Shared → Prop) (E : Value → Shared → Prop),
        (∀ (v : Value) (s₁ : Shared) (gs' : GenState), gs'.bare = true → g < s₁.gens.size → GYx Z q (some S) MaxRel W (NyMax W) (n - 1) (s.setGen g .running) v s₁ (fun r' s'' => match (generalizing := false) n with
            | 0 => False
            | m + 1 => gs'.Goes (model X.prog X.w) A.in1.in1 (GRx Z q (some S) MaxRel (NsMax Qm)) (GYx Z q (some S) MaxRel W (NyMax W)) m r' s'') → Q (some v) (s₁.setGen g gs')) →
        (∀ s₁, GFx Z q (some S) MaxRel (NsMax Qm) (s.setGen g .running) s₁ → ∀ h', (∀ b o, s₁.heap.get? b = some o → h'.get? b = some o) → Q none { s₁.setGen g .finished with heap := h' }) →
        wpAny (model X.prog X.w) A.in1 (pyNext (.ref a)) Q E s := fun Q E hY hP =>
      wpAny_gsz (n := g + 1) hgl (next_genG (A := A.in1) hh hl hd hg hgs hgo (fun v s₁ gs' hbare hv hsz => hY v s₁ gs' hbare (by
        have q1 : (s₁.setGen g gs').gens.size = s₁.gens.size := setGen_size _ _ _
        have q2 : g + 1 ≤ (s₁.setGen g gs').gens.size := hsz
        omega) hv) (fun s₁ hp h' hk _ => hP s₁ hp h' hk) fun e s₁ he => he.elim)
    rcases hacc with rfl | ⟨b, tb, rfl⟩
    · show wpAny _ A.in1 (tryCatch (pyNext (.ref a)) _ >>= _) _ _ s
      refine wpAny_bind (wpAny_tryCatch (nx _ _ (fun v s₁ gs' hbare hsz hv => ?_) fun s₁ hp h' hk => ?_))
      · obtain ⟨m, ys, y, σz, Hz, ps, hm, rv, hps, h0, J, ⟨i, ey, hw⟩, hkap⟩ := hv
        subst ey
        obtain ⟨t, rfl⟩ := rv
        obtain ⟨eps, hR⟩ := held_eq hps h0 hS
        have hS1 : s₁.heap.get? S = some (lstObj #[] c) := (J.pin (S, lstObj #[] c) (List.mem_append_right _ (List.mem_append_right _ (by rw [eps]; exact List.mem_singleton.mpr rfl)))).1
        show wpAny _ A.in1 (updateSeq S (fun _ => #[.int i t, .int i t]) >>= _) _ _ _
        refine wpAny_bind (wpAny_updateSeq hS1 rfl ?_)
        rw [hname]
        refine wpAny_pure ⟨plainId_quiet F.plain_max_loop _, turn _ s₁ gs' m ys i t Hz σz ps #[.int i t, .int i t] hsz hbare rfl (by omega) eps J hw hR.first ⟨i, t, rfl⟩ hkap _ _ (Heap.get?_update_self _ hS1 rfl) (fun b o hb e => (Heap.get?_update_other _ _ (Ne.symm hb)).trans e) rfl rfl⟩
      · obtain ⟨ys, σz, Hz, ps, hps, h0, J, hq⟩ := hp
        obtain ⟨eps, hR⟩ := held_eq hps h0 hS
        exact (hR.none hq).elim
    · show wpAny _ A.in1 (tryCatch (pyNext (.ref a)) _ >>= _) _ _ s
      refine wpAny_bind (wpAny_tryCatch (nx _ _ (fun v s₁ gs' hbare hsz hv => ?_) fun s₁ hp h' hk => ?_))
      · obtain ⟨m, ys, y, σz, Hz, ps, hm, rv, hps, h0, J, ⟨i, ey, hw⟩, hkap⟩ := hv
        subst ey
        obtain ⟨t, rfl⟩ := rv
        obtain ⟨eps, hR⟩ := held_eq hps h0 hS
        have hS1 : s₁.heap.get? S = some (lstObj #[.int b tb, .int b tb] c) := (J.pin (S, lstObj _ c) (List.mem_append_right _ (List.mem_append_right _ (by rw [eps]; exact List.mem_singleton.mpr rfl)))).1
        have hR2 := hR.more (i := i) (t := t)
        show wpAny _ A.in1 (tryCatch (holding [.int i t, .int i t] (richCompare .Gt (.int i t) (.int b tb) >>= _)) _ >>= _) _ _ _
        refine wpAny_bind (wpAny_tryCatch (wpAny_holding (wpAny_bind (cmp_gt ?_))))
        refine wpAny_bind (wpAny_holding (wpAny_truthy_bool ?_))
        refine wpAny_bind (wpAny_letGo (wpAny_pure ?_))
        cases hb : decide (i > b) with
        | true =>
          rw [if_pos hb] at hR2
          simp only [if_true]
          refine wpAny_bind (wpAny_updateSeq hS1 rfl (wpAny_bind (wpAny_letGo ?_)))
          rw [hname]
          refine wpAny_pure ⟨plainId_quiet F.plain_max_loop _, turn _ s₁ gs' m ys i t Hz σz ps #[.int i t, .int i t] hsz hbare rfl (by omega) eps J hw hR2 ⟨i, t, rfl⟩ hkap _ _ (Heap.get?_update_self _ hS1 rfl) (fun b o hb e => (Heap.get?_update_other _ _ (Ne.symm hb)).trans e) rfl rfl⟩
        | false =>
          rw [if_neg (by rw [hb]; exact Bool.false_ne_true)] at hR2
          simp only [Bool.false_eq_true, if_false]
          refine wpAny_bind (wpAny_letGo ?_)
          rw [hname]
          exact wpAny_pure ⟨plainId_quiet F.plain_max_loop _, turn _ s₁ gs' m ys i t Hz σz ps #[.int b tb, .int b tb] hsz hbare rfl (by omega) eps J hw hR2 ⟨b, tb, rfl⟩ hkap _ c hS1 (fun _ _ _ e => e) rfl rfl⟩
      · obtain ⟨ys, σz, Hz, ps, hps, h0, J, hq⟩ := hp
        obtain ⟨eps, hR⟩ := held_eq hps h0 hS
        have hS1 : s₁.heap.get? S = some (lstObj #[.int b tb, .int b tb] c) := (J.pin (S, lstObj _ c) (List.mem_append_right _ (List.mem_append_right _ (by rw [eps]; exact List.mem_singleton.mpr rfl)))).1
        obtain ⟨I1, g1⟩ := fin _ _ _ _ J
        show wpAny _ A.in1 (updateSeq S (fun _ => #[]) >>= _) _ _ _
        refine wpAny_bind (wpAny_updateSeq (hk _ _ hS1) rfl (wpAny_bind (wpAny_letGo (wpAny_pure ?_))))
        refine hdone b tb Hz _ (hin _ _ _ _ _ _ _ J eps (fun d o hd' e => (Heap.get?_update_other _ _ (Ne.symm hd')).trans (hk d o e)) rfl (allBare_setGen I1.bare rfl)) (hR.last hq)
/-- max(elt for x in iter), whole numbers -/
def tMaxG (P : Addr) (wi : TI) (te : TE) : TE := fun σ H Q => tGen P wi te NyMax (NsMax fun b H => Q (.int b) H) σ H
theorem pe_maxG {elt iter : Expr} {px p pos gpos : Pos} {c P : Addr} {wi : TI} {te : TE} {k : Nat}
    (hr : Room (k + 3) X.A) (hg : Gl X "max") (hm : X.mg "max" = none) (TB : GxR.TabB X.base X.mg c P) (hcode : X.env.code = .ref c) (Sc : GSc sc x) (hi : PI X (.Name x px) iter wi)
    (he : ∀ (A : Around) (code : Value) (s4 : Shared) (H4 : Hp) (fp : List Addr), Room k (A.deeper (gE X sc s4.heap.objs.size code)) → PE (gCx X A sc x code s4 H4 fp) elt te)
    (hs : ∀ v, genFold iter X.env v = pure v)
    (hst : starEach [.GeneratorExp elt [⟨.Name x px, iter, [], 0⟩] sc gpos] X.env = (false, eval (.GeneratorExp elt [⟨.Name x px, iter, [], 0⟩] sc gpos) X.env) :: starEach [] X.env := by rfl) :
    PE X (.Call (.Name "max" p) [.GeneratorExp elt [⟨.Name x px, iter, [], 0⟩] sc gpos] [] pos) (tMaxG P wi te) := by
  have hname : (toString "max" ++ toString ".loop" : String) = "max.loop" := by decide
  refine ⟨fun pins s σ H Q I h => ?_⟩
  have hb : bootBuiltins "max" = some (.builtin "max") := by decide +kernel
  refine wpAny_Call_Name_kw (ld_blt I hg hm hb (PyProof.Rows.callWith_builtin1 ?_ hst (by rfl)))
  rw [hst]
  show wpAny _ _ (spliced ((false, eval (.GeneratorExp elt [⟨.Name x px, iter, [], 0⟩] sc gpos) X.env) :: backTo pos (starEach [] X.env))) _ _ s
  refine Calls.spliced_cons (gx_make (k := k) (Rel := MaxRel) hr TB hcode Sc hi he hs I h fun a s5 hB => Calls.spliced_nil ?_)
  obtain ⟨g, cd, H4, hgen, hfresh, I5, ha, wake⟩ := hB
  refine call_function_tree F.kind_max F.plain_max F.entry_max (F.args_max1 _) ?_
  show wpAny _ X.A.in1 (Builtin.Builtins.bindParams "max" ["key", "default"] 0 ⟨[], []⟩ >>= _) _ _ s5
  refine wpAny_bind (wpAny_of_eq (show Builtin.Builtins.bindParams "max" ["key", "default"] 0 ⟨[], []⟩ = pure [none, none] from rfl) ?_)
  refine wpAny_bind (wpAny_pure (wpAny_bind (wpAny_pyIter_gen hgen ?_)))
  refine wpAny_bind (wpAny_newObj_type ?_)
  rw [hname]
  have hS5 : (s5.heap.push { cls := .type "list", data := .seq #[] }).get? s5.heap.objs.size = some (lstObj #[] 0) := Heap.get?_push_size _ rfl
  have kp5 : ∀ b o, s5.heap.get? b = some o → (s5.heap.push { cls := .type "list", data := .seq #[] }).get? b = some o := fun b o e => Heap.get?_push_of_some _ e
  have I6 : Inv X pins σ H4 { s5 with heap := s5.heap.push { cls := .type "list", data := .seq #[] } } := regens I5 rfl kp5 I5.bare
  obtain ⟨Z, q, W, m0, fin, seg⟩ := wake X.A.in1.in1 (some s5.heap.objs.size) (({ s5 with heap := s5.heap.push { cls := .type "list", data := .seq #[] } } : Shared).setGen g .running) ((hr.mono (by omega : k + 1 + 1 + 1 ≤ k + 3)).in1.in1) I.ok.frames
    (fun S z => by cases z; exact ⟨Nat.le_refl _, #[], 0, hS5, [], rfl, .inl ⟨rfl, rfl⟩⟩) kp5 rfl (allBare_setGen I6.bare rfl)
  have hcl : cStatics < s5.heap.objs.size := let ⟨_, hn, _⟩ := I5.nolimit; hn.lt
  refine wpAny_pure ⟨plainId_quiet F.plain_max_loop _, max_turns (Qm := fun b H => Q (.int b) H) hr.hd hr.depth (Nat.ne_of_gt ha) (Nat.ne_of_gt hcl) fin (fun ps σz Hz s7 acc c' s8 J eps k8 o8 b8 => ?_) (fun b t H' s' I' hq => ?_) (m0 + 1) _ #[] 0 (.inl rfl) hS5 (hgen.keeps kp5) I6.nolimit ⟨_, hfresh, rfl, seg⟩⟩
  · subst eps
    obtain ⟨h1, h2, h3, h4, _⟩ := J.pin (s5.heap.objs.size, lstObj acc c') (List.mem_append_right _ (List.mem_append_right _ (List.mem_singleton.mpr rfl)))
    obtain ⟨I7, _⟩ := fin _ _ _ _ J
    have ni : ∀ b : Addr, b ∉ [s5.heap.objs.size] → b ≠ s5.heap.objs.size := fun b hb e => hb (by rw [e]; exact List.mem_singleton.mpr rfl)
    have nS : ∀ b u, Hz b = some u → b ≠ s5.heap.objs.size := fun b u e z => by rw [z, h2] at e; cases e
    have kp8 : ∀ b o, b ∉ [s5.heap.objs.size] → s7.heap.get? b = some o → s8.heap.get? b = some o := fun b o hb e => k8 b o (ni b hb) e
    refine I7.call' (ch := [s5.heap.objs.size]) o8 ⟨fun b o e _ _ hx => kp8 b o hx e, fun b o e _ _ hx => ⟨o.slots, kp8 b o hx e⟩, fun _ _ _ n _ => n, fun b o e hx => ⟨o, kp8 b o hx e⟩,
      fun _ _ e => e, fun _ _ _ e => e, fun _ _ e => ⟨#[], by rw [e]; simp⟩⟩ (fun b u e => ?_) b8 fun b hb => ?_
    · refine (I7.hok b u e).stay (fun d v hd z => k8 d v ?_ z) (fun _ z => z) fun _ _ z => z
      rcases hd with z | z
      · rw [z]; exact nS b u e
      · exact nS d _ z
    · rw [List.mem_singleton.mp hb]
      obtain ⟨_, a2, _, a4, a5, a6⟩ := I5.fpOk (Nat.le_refl _) h2
      exact ⟨a4, a2, a5, a6⟩
  · exact ⟨.int b, H', I', ⟨t, rfl⟩, hq⟩
end
end Gx
namespace TG
open PySem L2
/-- the built-ins that the text calls are the built-ins still -/
structure Txt (mg : Str → Option Value) : Prop where
  isin : mg "isinstance" = none
  len : mg "len" = none
  range : mg "range" = none
  max : mg "max" = none
  min : mg "min" = none
  all : mg "all" = none
  str : mg "str" = none
  int : mg "int" = none
  bool : mg "bool" = none
  list : mg "list" = none
  tuple : mg "tuple" = none
  enum : mg "enumerate" = none
  ord : mg "ord" = none
theorem KB.refl {b l : Addr} {H : Hp} : KB b l H H := fun _ _ h _ _ => h
theorem box_ne {H : Hp} {b l : Addr} (x : BoxAt H b l) : b ≠ l := by
  obtain ⟨ns, st, h1, h2, _⟩ := x
  refine ne_of h1 h2 fun z => ?_
  injection z with z
  cases ns with
  | nil => cases z
  | cons n ns =>
    rw [List.map_cons] at z
    injection z with z _
    cases z
theorem nz {i : Int} (h : i ≠ 0) : i ≠ 0 := h
theorem at0 {α : Type} {v : α} {xs : List α} : atI (v :: xs) 0 = some v := atI_nat (j := 0) rfl
theorem ix0 {n : Nat} : ixN (n + 1) 0 = some 0 := by
  unfold ixN
  rw [if_pos (by decide), if_pos (by omega)]
  rfl
theorem small0 : ([] : List V).length ≤ sizeLine := Nat.zero_le _
theorem dp_ints {K : PySem.W.Frag} {H : Hp} : ∀ ns : List Int, DpAll K H (ns.map V.int) (ns.map PyData.int)
  | [] => .nil
  | n :: ns => .cons (.int n) (dp_ints ns)
theorem canAll_ints : ∀ ns : List Int, PyData.canLayAll0 (ns.map PyData.int) = true
  | [] => rfl
  | _ :: r => by simp [PyData.canLayAll0, PyData.canLay0, canAll_ints r]
theorem depthAll_ints : ∀ ns : List Int, PyData.depthAll (ns.map PyData.int) = 0
  | [] => rfl
  | _ :: r => by simp [PyData.depthAll, PyData.depth, depthAll_ints r]
theorem shaped_of_ints (ns : List Int) : SeqAt.shaped (.list (ns.map PyData.int)) = true := by
  simp [SeqAt.shaped, PyData.canLay0, PyData.depth, canAll_ints, depthAll_ints]
def spTake : Sp := fun vs H Q _ => ∃ (b l : Addr) (many : Int), vs = [.ref b, .int many] ∧ BoxAt H b l ∧ 0 < many ∧ many < 1073741824 ∧
  ∀ (r : Int) (H' : Hp), 0 ≤ r → r < many → BoxAt H' b l → KB b l H H' → Q (.int r) H'
section
variable {P : Program} {w : World} {K : PySem.W.Frag} {mg : Str → Option Value} {base : Heap}
theorem sc_take : FnScope ["_law_box", "_law_many", "_law_number"] ["_law_box", "_law_many"] (defScope s_take) := ⟨rfl, rfl, rfl, by decide +kernel, rfl, by decide +kernel, by decide +kernel⟩
theorem ok_take {f : Addr} {fd : FuncData} (F : Fun K "_law_take" "_law_take" s_take f fd) : FnOk P w K mg base CX0 1 f fd ["_law_box", "_law_many"] spTake := by
  refine F.ok sc_take (fun vs H Q E h => ?_) (fun cdv A outer s H vs Q E hr h => ?_)
  · obtain ⟨b, l, many, rfl, _⟩ := h
    rfl
  · obtain ⟨b, l, many, rfl, hB, m0, m1, k⟩ := h
    have nd := sc_take.nd
    have hu := hr.units
    refine ⟨_, pss_cons (ps_if (pt_cmpR (op_eqD hu) (pe_ix ix_list (pv 0) pe_int (fun _ _ => rfl)) (pe_lst pa_nil) (nomark _))
        (pss_cons (ps_asg (pe_op op_modN (pe_op op_mul (pe_ix ix_list (pv 0) pe_int (fun _ _ => rfl)) pe_int) pe_int) (pg_sub (pv 0) pe_int set_list))
          (pss_one (ps_ret (pe_op op_modN (pe_op op_fdivN (pe_ix ix_list (pv 0) pe_int (fun _ _ => rfl)) pe_int) (pv 1))))) pss_nil)
      (pss_cons (ps_set (i := 2) nd rfl (.inl rfl) (pe_ix ix_list (pe_ix ix_list (pv 0) pe_int (fun _ _ => rfl)) pe_int (fun _ _ => rfl)))
      (pss_cons (ps_asg (pe_op op_fdivN (pv 2) (pv 1)) (pg_sub (pe_ix ix_list (pv 0) pe_int (fun _ _ => rfl)) pe_int set_list))
      (pss_cons (ps_if (PW.pt (pw_or (pt_cmpR op_eq (pe_ix ix_list (pe_ix ix_list (pv 0) pe_int (fun _ _ => rfl)) pe_int (fun _ _ => rfl)) pe_int (nomark _)) (pw_or1 (pt_cmpR op_eq (pe_ix ix_list (pe_ix ix_list (pv 0) pe_int (fun _ _ => rfl)) pe_int (fun _ _ => rfl)) (pe_un un_neg pe_int) (nomark _)))))
          (pss_one (ps_expr (pe_bm PySem.F.plainAttrs_list PySem.F.slot_list_pop PySem.F.type_list_pop mt_popAt (pe_ix ix_list (pv 0) pe_int (fun _ _ => rfl)) (pa_cons pe_int pa_nil)))) pss_nil)
      (pss_one (ps_ret (pe_op op_modN (pv 2) (pv 1))))))), ?_⟩
    obtain ⟨ns, st, h1, h2, h3⟩ := id hB
    have nbl := box_ne hB
    have len2 : ∀ o, (upd H b o) l = some (.lst (ns.map V.int)) := fun o => by rw [upd_ne nbl.symm]; exact h2
    -- _law_box[0] == []
    refine ⟨_, rfl, b, _, 0, .ref l, rfl, rfl, SqL.of h1, rfl, small0, fun p np => ?_⟩
    have npb : b ≠ p := ne_of_none h1 np
    have npl : l ≠ p := ne_of_none h2 np
    have g1 : (upd H p (.lst [])) b = some (.lst [.ref l, .int st]) := by rw [upd_ne npb]; exact h1
    have g2 : (upd H p (.lst [])) l = some (.lst (ns.map V.int)) := by rw [upd_ne npl]; exact h2
    have kp : KB b l H (upd H p (.lst [])) := fun c o e _ _ => by rw [upd_ne (ne_of_none e np)]; exact e
    refine ⟨.list (ns.map PyData.int), .list [], .lst (SqL.of g2) (dp_ints ns), .lst (SqL.of upd_same) .nil, shaped_of_ints ns, rfl, _, rfl, ?_⟩
    cases ns with
    | nil =>
      refine iteT ?_
      refine ⟨_, rfl, b, _, 1, .int st, rfl, rfl, SqL.of g1, rfl, st, 48271, rfl, rfl, .inr (by decide), _, _, rfl, rfl, nz (by decide), _, rfl, b, _, 1, 1, rfl, rfl, g1, rfl, ?_⟩
      refine ⟨_, rfl, b, _, 1, _, rfl, rfl, SqL.of upd_same, rfl, _, _, rfl, rfl, ⟨by decide, by decide⟩, _, rfl, _, _, rfl, rfl, nz (by omega), ?_⟩
      refine k _ _ (Int.fmod_nonneg_of_pos _ m0) (Int.fmod_lt_of_pos _ m0) ⟨[], _, upd_same, by rw [upd_ne nbl.symm]; exact g2, h3⟩ fun c o e hc hl => ?_
      rw [upd_ne hc]
      exact kp c o e hc hl
    | cons n ns =>
      refine iteF ?_
      refine ⟨_, rfl, b, _, 0, .ref l, rfl, rfl, SqL.of g1, rfl, l, _, 0, .int n, rfl, rfl, SqL.of g2, at0, ?_⟩
      refine ⟨_, rfl, _, rfl, n, many, rfl, rfl, ⟨by omega, by omega⟩, _, rfl, b, _, 0, .ref l, rfl, rfl, SqL.of g1, rfl, l, _, 0, 0, rfl, rfl, g2, ix0, ?_⟩
      have j1 : ∀ o, (upd (upd H p (.lst [])) l o) b = some (.lst [.ref l, .int st]) := fun o => by rw [upd_ne nbl]; exact g1
      have kl : ∀ o, KB b l H (upd (upd H p (.lst [])) l o) := fun o c u e hc hl => by rw [upd_ne hl]; exact kp c u e hc hl
      have fin : ∀ ms : List Int, ms.length ≤ 63 → Q (.int (n.fmod many)) (upd (upd H p (.lst [])) l (.lst (ms.map V.int))) := fun ms hm =>
        k _ _ (Int.fmod_nonneg_of_pos _ m0) (Int.fmod_lt_of_pos _ m0) ⟨ms, st, j1 _, upd_same, hm⟩ (kl _)
      have e0 : (List.map V.int (n :: ns)).set 0 (V.int (n.fdiv many)) = List.map V.int (n.fdiv many :: ns) := rfl
      rw [e0]
      -- == 0 or == -1
      refine ⟨_, rfl, b, _, 0, .ref l, rfl, rfl, SqL.of (j1 _), rfl, l, _, 0, .int (n.fdiv many), rfl, rfl, SqL.of upd_same, at0, rfl, _, rfl, ?_⟩
      have done : ∀ H', (∃ ms : List Int, ms.length ≤ 63 ∧ H' = upd (upd H p (.lst [])) l (.lst (ms.map V.int))) → ∃ v, ([some (V.ref b), some (V.int many), some (V.int n)] : L2.St)[2]? = some (some v) ∧ ∃ v_1, ([some (V.ref b), some (V.int many), some (V.int n)] : L2.St)[1]? = some (some v_1) ∧ ∃ i j, v = V.int i ∧ v_1 = V.int j ∧ j ≠ 0 ∧ Q (V.int (i.fmod j)) H' := fun H' ⟨ms, hm, e⟩ => by
        subst e
        exact ⟨_, rfl, _, rfl, n, many, rfl, rfl, nz (by omega), fin ms hm⟩
      have pop : ∀ Z : VK, (∀ y H', H' = upd (upd H p (.lst [])) l (.lst (ns.map V.int)) → Z y H') → rPopAt (.ref l) [.int 0] (upd (upd H p (.lst [])) l (.lst (List.map V.int (n.fdiv many :: ns)))) Z := fun Z hZ =>
        ⟨l, _, 0, 0, _, rfl, rfl, upd_same, by decide, by decide, by simp [seqIndex?], rfl, hZ _ _ (by rw [upd_upd]; rfl)⟩
      have h3' : ns.length ≤ 63 := by simp at h3; omega
      by_cases hz : n.fdiv many = 0
      · rw [decide_eq_true (show V.int (n.fdiv many) = V.int 0 by rw [hz])]
        refine iteT (iteT ⟨_, rfl, b, _, 0, .ref l, rfl, rfl, SqL.of (j1 _), rfl, .inl ⟨rfl, _, SqL.of upd_same⟩, pop _ fun y H' e => done H' ⟨ns, h3', e⟩⟩)
      · rw [decide_eq_false (show ¬ V.int (n.fdiv many) = V.int 0 from fun z => hz (by injection z))]
        refine iteF ⟨_, rfl, b, _, 0, .ref l, rfl, rfl, SqL.of (j1 _), rfl, l, _, 0, .int (n.fdiv many), rfl, rfl, SqL.of upd_same, at0, 1, rfl, rfl, _, rfl, ?_⟩
        refine ite2 (fun _ => ⟨_, rfl, b, _, 0, .ref l, rfl, rfl, SqL.of (j1 _), rfl, .inl ⟨rfl, _, SqL.of upd_same⟩, pop _ fun y H' e => done H' ⟨ns, h3', e⟩⟩) fun _ => ?_
        exact done _ ⟨n.fdiv many :: ns, h3, rfl⟩
end
end TG
namespace TG
open PySem L2
section
variable {P : Program} {w : World} {K : PySem.W.Frag} {mg : Str → Option Value} {base : Heap}
def spBegun (K : PySem.W.Frag) : Sp := fun vs H Q _ => ∃ (a : Addr) (ns : List Int), vs = [.ref a] ∧ SqL K H a (ns.map V.int) ∧ ns.length ≤ 63 ∧
  ∀ (b l : Addr) (H' : Hp), BoxAt H' b l → Same H H' → H b = none → H l = none → Q (.ref b) H'
theorem sc_begun : FnScope ["_law_script", "_law_stirred", "_law_cell_here"] ["_law_script"] (defScope s_begun) := ⟨rfl, rfl, rfl, by decide +kernel, rfl, by decide +kernel, by decide +kernel⟩
theorem ok_begun {f : Addr} {fd : FuncData} (T : Txt mg) (F : Fun K "_law_begun" "_law_begun" s_begun f fd) : FnOk P w K mg base CX0 1 f fd ["_law_script"] (spBegun K) := by
  refine F.ok sc_begun (fun vs H Q E h => ?_) (fun cdv A outer s H vs Q E hr h => ?_)
  · obtain ⟨a, ns, rfl, _⟩ := h
    rfl
  · obtain ⟨a, ns, rfl, hS, hl, k⟩ := h
    have nd := sc_begun.nd
    refine ⟨_, pss_cons (ps_set (i := 1) nd rfl (.inl rfl) pe_int) (pss_cons (ps_for PassesOwn.never rfl (pi_list (pv 0)) (pg_name (i := 2) nd rfl (.inl rfl))
        (pss_one (ps_set (i := 1) nd rfl (.inl rfl) (pe_op op_modN (pe_op op_add (pe_op op_add (pe_op op_mul (pv 1) pe_int) (pe_op op_mul (pv 2) pe_int)) pe_int) pe_int))))
      (pss_one (ps_ret (pe_lst (pa_cons (pe_callTy call_list_of (by rfl) T.list (by decide +kernel) (pa_cons (pv 0) pa_nil))
        (pa_cons (pe_op op_mul (pv 1) (pe_callTy call_int1 (by rfl) T.int (by decide +kernel) (pa_cons (pe_cmpR op_gt (pe_callB call_len_seq (by rfl) T.len PySem.boot_len (pa_cons (pv 0) pa_nil)) pe_int (nomark _)) pa_nil))) pa_nil)))))), ?_⟩
    refine ⟨_, rfl, a, rfl, ⟨_, hS⟩, for_list (xs := ns.map V.int) (fun _ σ H1 => H1 = H ∧ ∃ st c, σ = [some (.ref a), some (.int st), c]) ⟨rfl, 0, _, rfl⟩ (fun i σ H1 _ p => by rw [p.1]; exact hS) ?_ ?_⟩
    · rintro i x σ H1 hx ⟨rfl, st, c, rfl⟩
      obtain ⟨n, rfl⟩ : ∃ n, x = V.int n := by
        rw [List.getElem?_map] at hx
        cases e : ns[i]? with
        | none => rw [e] at hx; cases hx
        | some n => rw [e] at hx; cases hx; exact ⟨n, rfl⟩
      exact ⟨_, rfl, st, 48271, rfl, rfl, .inr (by decide), _, rfl, n, 69621, rfl, rfl, .inr (by decide), _, _, rfl, rfl, _, 11, rfl, rfl, _, 2147483647, rfl, rfl, nz (by decide), rfl, _, _, rfl⟩
    · rintro σ H1 ⟨rfl, st, c, rfl⟩
      refine ⟨_, rfl, a, _, rfl, .inl hS, fun l nl => ?_⟩
      have hS2 : SqL K (upd H1 l (.lst (ns.map V.int))) a (ns.map V.int) := by
        rcases hS with (z | ⟨o, z⟩) | z
        · exact .inl (.inl (by rw [upd_ne (ne_of_none z nl)]; exact z))
        · exact .inl (.inr ⟨o, by rw [upd_ne (ne_of_none z nl)]; exact z⟩)
        · exact .inr z
      refine ⟨_, rfl, _, rfl, a, _, rfl, .inl hS2, _, 2, rfl, rfl, .inr ⟨_, rfl, st, _, rfl, rfl, .inr (by split <;> decide), (by show 2 ≤ sizeLine; decide), fun b nb => ?_⟩⟩
      have nb1 : H1 b = none := by
        by_cases e : b = l
        · rw [e, upd_same] at nb; cases nb
        · rw [upd_ne e] at nb; exact nb
      have nlb : l ≠ b := fun z => by rw [← z, upd_same] at nb; cases nb
      refine k b l _ ⟨ns, _, upd_same, by rw [upd_ne nlb, upd_same], hl⟩ (fun c o e => ?_) nb1 nl
      rw [upd_ne (ne_of_none e nb1), upd_ne (ne_of_none e nl)]
      exact e
mutual
def dok : PyData → Bool
  | .list xs | .tuple xs => decide (xs.length ≤ 1000) && dokAll xs
  | .dict _ => false
  | .none | .bool _ | .int _ | .str _ => true
def dokAll : List PyData → Bool
  | [] => true
  | x :: xs => dok x && dokAll xs
end
theorem dokAll_get : ∀ {ds : List PyData} {i : Nat} {d : PyData}, dokAll ds = true → ds[i]? = some d → dok d = true
  | [], _, _, _, h => by simp at h
  | x :: xs, 0, d, h, e => by
    simp only [dokAll, Bool.and_eq_true] at h
    cases e
    exact h.1
  | x :: xs, i + 1, d, h, e => by
    simp only [dokAll, Bool.and_eq_true] at h
    exact dokAll_get h.2 (by simpa using e)
theorem depthAll_get : ∀ {ds : List PyData} {i : Nat} {d : PyData}, ds[i]? = some d → d.depth ≤ PyData.depthAll ds
  | [], _, _, h => by simp at h
  | x :: xs, 0, d, e => by
    cases e
    simp only [PyData.depthAll]
    exact Nat.le_max_left _ _
  | x :: xs, i + 1, d, e => by
    simp only [PyData.depthAll]
    exact Nat.le_trans (depthAll_get (i := i) (by simpa using e)) (Nat.le_max_right _ _)
theorem dp_len {H : Hp} : ∀ {vs : List V} {ds : List PyData}, DpAll K H vs ds → vs.length = ds.length
  | [], [], _ => rfl
  | _ :: _, _ :: _, h => by
    cases h with
    | cons _ t => rw [List.length_cons, List.length_cons, dp_len t]
theorem dp_get {H : Hp} : ∀ {vs : List V} {ds : List PyData} {i : Nat} {v : V}, DpAll K H vs ds → vs[i]? = some v → ∃ d, ds[i]? = some d ∧ Dp K H v d
  | [], [], _, _, _, h => by simp at h
  | x :: vs, y :: ds, 0, v, h, e => by
    cases h with
    | cons h1 _ =>
      cases e
      exact ⟨y, rfl, h1⟩
  | x :: vs, y :: ds, i + 1, v, h, e => by
    cases h with
    | cons _ h2 => simpa using dp_get (i := i) h2 (by simpa using e)
theorem ty_list {H : Hp} {a : Addr} {xs : List V} (h : SqL K H a xs) : TyX K H (.ref a) (.type "list") := by
  rcases h with (z | ⟨o, z⟩) | ⟨o, its, n, z, c, _⟩
  · exact .base (.lst z)
  · exact .base (.frz z)
  · exact .kList z c
theorem ty_tup {H : Hp} {a : Addr} {xs : List V} (h : SqT K H a xs) : TyX K H (.ref a) (.type "tuple") := by
  rcases h with (z | ⟨o, z⟩) | ⟨o, its, n, z, c, _⟩
  · exact .base (.tup z)
  · exact .fTuple z
  · exact .kTuple z c
def spAlike (K : PySem.W.Frag) (n : Nat) : Sp := fun vs H Q _ => ∃ (x y : V) (d : PyData), vs = [x, y] ∧ Dp K H x d ∧ Dp K H y d ∧ d.depth < n ∧ dok d = true ∧ Q (.bl true) H
theorem sc_alike : FnScope ["_law_found", "_law_due", "_law_k"] ["_law_found", "_law_due"] (defScope s_alike) := ⟨rfl, rfl, rfl, by decide +kernel, rfl, by decide +kernel, by decide +kernel⟩
theorem ok_alike {f : Addr} {fd : FuncData} (T : Txt mg) (F : Fun K "_law_alike" "_law_alike" s_alike f fd) (b : Binds K fd ["_law_found", "_law_due"] []) (mgf : mg "_law_alike" = some (.ref f)) : ∀ n, FnOk P w K mg base CX0 (n + 1) f fd ["_law_found", "_law_due"] (spAlike K n) := by
  intro n
  induction n with
  | zero =>
    refine F.ok sc_alike (fun vs H Q E h => ?_) (fun cdv A outer s H vs Q E hr h => ?_)
    · obtain ⟨x, y, d, rfl, _⟩ := h
      rfl
    · obtain ⟨x, y, d, rfl, _, _, h, _⟩ := h
      exact absurd h (Nat.not_lt_zero _)
  | succ n G =>
    refine F.ok sc_alike (fun vs H Q E h => ?_) (fun cdv A outer s H vs Q E hr h => ?_)
    · obtain ⟨x, y, d, rfl, _⟩ := h
      rfl
    · obtain ⟨x, y, d, rfl, hx, hy, hd, hk, k⟩ := h
      have nd := sc_alike.nd
      refine ⟨_, pss_cons (ps_if (pt_cmpR op_isN (pv 1) pe_non (nomark _)) (pss_one (ps_ret (pe_cmpR op_isN (pv 0) pe_non (nomark _)))) pss_nil)
        (pss_cons (ps_if (pt_val (pe_callB call_isi (by rfl) T.isin (by decide +kernel) (pa_cons (pv 1) (pa_cons (pe_bltn (v := .ty "bool") (by rfl) T.bool (by decide +kernel) rfl) pa_nil)))) (pss_one (ps_ret (pe_and (pe_callB call_isi (by rfl) T.isin (by decide +kernel) (pa_cons (pv 0) (pa_cons (pe_bltn (v := .ty "bool") (by rfl) T.bool (by decide +kernel) rfl) pa_nil))) (pe_one (pe_cmpR op_eq (pv 0) (pv 1) (nomark _)))))) pss_nil)
        (pss_cons (ps_if (pt_val (pe_callB call_isi (by rfl) T.isin (by decide +kernel) (pa_cons (pv 1) (pa_cons (pe_bltn (v := .ty "int") (by rfl) T.int (by decide +kernel) rfl) pa_nil)))) (pss_one (ps_ret (pe_and (pe_callB call_isi (by rfl) T.isin (by decide +kernel) (pa_cons (pv 0) (pa_cons (pe_bltn (v := .ty "int") (by rfl) T.int (by decide +kernel) rfl) pa_nil))) (pe_and (pe_not (pe_callB call_isi (by rfl) T.isin (by decide +kernel) (pa_cons (pv 0) (pa_cons (pe_bltn (v := .ty "bool") (by rfl) T.bool (by decide +kernel) rfl) pa_nil)))) (pe_one (pe_cmpR op_eq (pv 0) (pv 1) (nomark _))))))) pss_nil)
        (pss_cons (ps_if (pt_val (pe_callB call_isi (by rfl) T.isin (by decide +kernel) (pa_cons (pv 1) (pa_cons (pe_bltn (v := .ty "str") (by rfl) T.str (by decide +kernel) rfl) pa_nil)))) (pss_one (ps_ret (pe_and (pe_callB call_isi (by rfl) T.isin (by decide +kernel) (pa_cons (pv 0) (pa_cons (pe_bltn (v := .ty "str") (by rfl) T.str (by decide +kernel) rfl) pa_nil))) (pe_one (pe_cmpR op_eq (pv 0) (pv 1) (nomark _)))))) pss_nil)
        (pss_cons (ps_if (PW.pt (pw_or (pt_cmpR op_ne (pe_callB call_isi (by rfl) T.isin (by decide +kernel) (pa_cons (pv 1) (pa_cons (pe_bltn (v := .ty "tuple") (by rfl) T.tuple (by decide +kernel) rfl) pa_nil))) (pe_callB call_isi (by rfl) T.isin (by decide +kernel) (pa_cons (pv 0) (pa_cons (pe_bltn (v := .ty "tuple") (by rfl) T.tuple (by decide +kernel) rfl) pa_nil))) (nomark _))
            (pw_or1 (pt_cmpR op_ne (pe_callB call_isi (by rfl) T.isin (by decide +kernel) (pa_cons (pv 1) (pa_cons (pe_bltn (v := .ty "list") (by rfl) T.list (by decide +kernel) rfl) pa_nil))) (pe_callB call_isi (by rfl) T.isin (by decide +kernel) (pa_cons (pv 0) (pa_cons (pe_bltn (v := .ty "list") (by rfl) T.list (by decide +kernel) rfl) pa_nil))) (nomark _))))) (pss_one (ps_ret pe_bl)) pss_nil)
        (pss_cons (ps_if (pt_cmpR op_ne (pe_callB call_len_seq (by rfl) T.len PySem.boot_len (pa_cons (pv 0) pa_nil)) (pe_callB call_len_seq (by rfl) T.len PySem.boot_len (pa_cons (pv 1) pa_nil)) (nomark _)) (pss_one (ps_ret pe_bl)) pss_nil)
        (pss_cons (ps_for PassesOwn.never rfl (pi_range1 (by rfl) T.range (pa_cons (pe_callB call_len_seq (by rfl) T.len PySem.boot_len (pa_cons (pv 1) pa_nil)) pa_nil)) (pg_name (i := 2) nd rfl (.inl rfl))
          (pss_one (ps_if (pt_not (pt_val (pe_call G hr (by rfl) mgf F.kp b .nil pass0 (pa_cons (pe_ix ix_seq (pv 0) (pv 2) (fun _ _ => rfl)) (pa_cons (pe_ix ix_seq (pv 1) (pv 2) (fun _ _ => rfl)) pa_nil))))) (pss_one (ps_ret pe_bl)) pss_nil)))
        (pss_one (ps_ret pe_bl)))))))), ?_⟩
      cases hx with
      | non =>
        cases hy
        exact ⟨_, rfl, rfl, true, rfl, iteT ⟨_, rfl, rfl, k⟩⟩
      | bl c =>
        cases hy
        exact ⟨_, rfl, rfl, false, rfl, iteF ⟨_, rfl, _, _, _, _, true, rfl, .ty _, (.base (.bl c)), kit_ty (by decide +kernel), true, rfl, iteT ⟨_, rfl, _, _, _, _, true, rfl, .ty _, (.base (.bl c)), kit_ty (by decide +kernel), true, rfl, iteT ⟨_, rfl, _, rfl, rfl, by simpa using k⟩⟩⟩⟩
      | int i =>
        cases hy
        exact ⟨_, rfl, rfl, false, rfl, iteF ⟨_, rfl, _, _, _, _, false, rfl, .ty _, (.base (.int i)), kit_ty (by decide +kernel), false, rfl, iteF ⟨_, rfl, _, _, _, _, true, rfl, .ty _, (.base (.int i)), kit_ty (by decide +kernel), true, rfl, iteT ⟨_, rfl, _, _, _, _, true, rfl, .ty _, (.base (.int i)), kit_ty (by decide +kernel), true, rfl, iteT
          ⟨_, rfl, _, _, _, _, false, rfl, .ty _, (.base (.int i)), kit_ty (by decide +kernel), false, rfl, true, rfl, iteT ⟨_, rfl, _, rfl, rfl, by simpa using k⟩⟩⟩⟩⟩⟩
      | str z =>
        cases hy
        exact ⟨_, rfl, rfl, false, rfl, iteF ⟨_, rfl, _, _, _, _, false, rfl, .ty _, (.base (.str z)), kit_ty (by decide +kernel), false, rfl, iteF ⟨_, rfl, _, _, _, _, false, rfl, .ty _, (.base (.str z)), kit_ty (by decide +kernel), false, rfl, iteF ⟨_, rfl, _, _, _, _, true, rfl, .ty _, (.base (.str z)), kit_ty (by decide +kernel), true, rfl, iteT
          ⟨_, rfl, _, _, _, _, true, rfl, .ty _, (.base (.str z)), kit_ty (by decide +kernel), true, rfl, iteT ⟨_, rfl, _, rfl, rfl, by simpa using k⟩⟩⟩⟩⟩⟩
      | @lst p xs ds sx ax =>
        cases hy with
        | @lst q ys _ sy ay =>
          refine ⟨_, rfl, rfl, false, rfl, iteF ⟨_, rfl, _, _, _, _, false, rfl, .ty _, (ty_list sy), kit_ty (by decide +kernel), false, rfl, iteF ⟨_, rfl, _, _, _, _, false, rfl, .ty _, (ty_list sy), kit_ty (by decide +kernel), false, rfl, iteF ⟨_, rfl, _, _, _, _, false, rfl, .ty _, (ty_list sy), kit_ty (by decide +kernel), false, rfl, iteF
            ⟨_, rfl, _, _, _, _, false, rfl, .ty _, (ty_list sy), kit_ty (by decide +kernel), _, rfl, _, _, _, _, false, rfl, .ty _, (ty_list sx), kit_ty (by decide +kernel), rfl, false, rfl, iteF ⟨_, rfl, _, _, _, _, true, rfl, .ty _, (ty_list sy), kit_ty (by decide +kernel), _, rfl, _, _, _, _, true, rfl, .ty _, (ty_list sx), kit_ty (by decide +kernel), rfl, false, rfl, iteF ?_⟩⟩⟩⟩⟩⟩
          simp only [dok, Bool.and_eq_true, decide_eq_true_eq] at hk
          simp only [PyData.depth] at hd
          have lx := dp_len ax
          have ly := dp_len ay
          refine ⟨_, rfl, p, xs, rfl, .inl sx, _, rfl, q, ys, rfl, .inl sy, rfl, false, by rw [lx, ly]; simp, iteF ?_⟩
          refine ⟨_, rfl, q, ys, rfl, .inl sy, _, rfl, by omega, by omega, for_range (n := (ys.length : Int).toNat) (fun _ σ H' => H' = H ∧ ∃ c, σ = [some (.ref p), some (.ref q), c]) ⟨rfl, _, rfl⟩ ?_ ?_⟩
          · rintro i σ H' hi ⟨rfl, c, rfl⟩
            have hi1 : i < xs.length := by omega
            have hi2 : i < ys.length := by omega
            obtain ⟨d1, e1, dx⟩ := dp_get ax (List.getElem?_eq_getElem hi1)
            obtain ⟨d2, e2, dy⟩ := dp_get ay (List.getElem?_eq_getElem hi2)
            rw [e1] at e2
            cases e2
            refine ⟨_, rfl, _, rfl, .inl ⟨p, xs, _, _, rfl, rfl, sx, by rw [Int.zero_add]; exact atI_nat (List.getElem?_eq_getElem hi1), ⟨_, rfl, _, rfl, .inl ⟨q, ys, _, _, rfl, rfl, sy, by rw [Int.zero_add]; exact atI_nat (List.getElem?_eq_getElem hi2), ?_⟩⟩⟩⟩
            exact ⟨_, _, d1, rfl, dx, dy, by have := depthAll_get e1; omega, dokAll_get hk.2 e1, true, rfl, iteF ⟨rfl, _, rfl⟩⟩
          · rintro σ H' ⟨rfl, c, rfl⟩
            exact k
      | @tup p xs ds sx ax =>
        cases hy with
        | @tup q ys _ sy ay =>
          refine ⟨_, rfl, rfl, false, rfl, iteF ⟨_, rfl, _, _, _, _, false, rfl, .ty _, (ty_tup sy), kit_ty (by decide +kernel), false, rfl, iteF ⟨_, rfl, _, _, _, _, false, rfl, .ty _, (ty_tup sy), kit_ty (by decide +kernel), false, rfl, iteF ⟨_, rfl, _, _, _, _, false, rfl, .ty _, (ty_tup sy), kit_ty (by decide +kernel), false, rfl, iteF
            ⟨_, rfl, _, _, _, _, true, rfl, .ty _, (ty_tup sy), kit_ty (by decide +kernel), _, rfl, _, _, _, _, true, rfl, .ty _, (ty_tup sx), kit_ty (by decide +kernel), rfl, false, rfl, iteF ⟨_, rfl, _, _, _, _, false, rfl, .ty _, (ty_tup sy), kit_ty (by decide +kernel), _, rfl, _, _, _, _, false, rfl, .ty _, (ty_tup sx), kit_ty (by decide +kernel), rfl, false, rfl, iteF ?_⟩⟩⟩⟩⟩⟩
          simp only [dok, Bool.and_eq_true, decide_eq_true_eq] at hk
          simp only [PyData.depth] at hd
          have lx := dp_len ax
          have ly := dp_len ay
          refine ⟨_, rfl, p, xs, rfl, .inr sx, _, rfl, q, ys, rfl, .inr sy, rfl, false, by rw [lx, ly]; simp, iteF ?_⟩
          refine ⟨_, rfl, q, ys, rfl, .inr sy, _, rfl, by omega, by omega, for_range (n := (ys.length : Int).toNat) (fun _ σ H' => H' = H ∧ ∃ c, σ = [some (.ref p), some (.ref q), c]) ⟨rfl, _, rfl⟩ ?_ ?_⟩
          · rintro i σ H' hi ⟨rfl, c, rfl⟩
            have hi1 : i < xs.length := by omega
            have hi2 : i < ys.length := by omega
            obtain ⟨d1, e1, dx⟩ := dp_get ax (List.getElem?_eq_getElem hi1)
            obtain ⟨d2, e2, dy⟩ := dp_get ay (List.getElem?_eq_getElem hi2)
            rw [e1] at e2
            cases e2
            refine ⟨_, rfl, _, rfl, .inr (.inl ⟨p, xs, _, _, rfl, rfl, sx, by rw [Int.zero_add]; exact atI_nat (List.getElem?_eq_getElem hi1), ⟨_, rfl, _, rfl, .inr (.inl ⟨q, ys, _, _, rfl, rfl, sy, by rw [Int.zero_add]; exact atI_nat (List.getElem?_eq_getElem hi2), ?_⟩)⟩⟩)⟩
            exact ⟨_, _, d1, rfl, dx, dy, by have := depthAll_get e1; omega, dokAll_get hk.2 e1, true, rfl, iteF ⟨rfl, _, rfl⟩⟩
          · rintro σ H' ⟨rfl, c, rfl⟩
            exact k
end
end TG
namespace Gx
open PySem PySem.Spec PyProof.Rows L2 GenW
section
variable {J : It} {n : Nat} {G : Hp → Prop} {Y : Nat → Hp → V → Hp → Prop}
/-- all over a walk whose i-th element is f i -/
theorem all_by (w : Walk J n G Y) {te : TE} {Q : VK} {H2 : Hp} (f : Nat → Bool) (Pv : Nat → Hp → Prop) (h0 : Pv 0 H2) (hG : ∀ i H, i ≤ n → Pv i H → G H)
    (hs : ∀ i v H H', i < n → Pv i H → Y i H v H' → ∀ Z : VK, (∀ H3, Pv (i + 1) H3 → Z (.bl (f i)) H3) → te [some v] H' Z)
    (hT : ∀ H, Pv n H → (∀ i, i < n → f i = true) → Q (.bl true) H) (hF : ∀ i H, i < n → f i = false → Pv (i + 1) H → Q (.bl false) H) :
    ∃ W : WT, (∃ m, W m [] H2) ∧ ∀ m ys H, W m ys H → (J.stop ys.length H ∧ (fun (_ : List V) H => Q (.bl true) H) ys H) ∨
      (J.go ys.length H ∧ ∀ v H', J.yld ys.length H v H' → te [some v] H' (NyAll (fun b H => Q (.bl b) H) W m ys)) := by
  refine ⟨fun m ys H => m = n - ys.length ∧ ys.length ≤ n ∧ Pv ys.length H ∧ ∀ i, i < ys.length → f i = true, ⟨n, by simp, Nat.zero_le _, h0, fun i hi => absurd hi (Nat.not_lt_zero _)⟩, ?_⟩
  rintro m ys H ⟨rfl, hl, hp, ht⟩
  have q := hG _ H hl hp
  by_cases hlt : ys.length < n
  · refine .inr ⟨w.goes _ H hlt q, fun v H' y => hs _ v H H' hlt hp (w.yields _ H v H' hlt q y) _ fun H3 p3 => ⟨f ys.length, rfl, ?_⟩⟩
    cases hf : f ys.length with
    | true =>
      refine iteT ⟨n - (ys.length + 1), by omega, by rw [List.length_append, List.length_singleton], by rw [List.length_append, List.length_singleton]; exact hlt, by rw [List.length_append, List.length_singleton]; exact p3, fun i hi => ?_⟩
      rw [List.length_append, List.length_singleton] at hi
      by_cases e : i = ys.length
      · rw [e]; exact hf
      · exact ht i (by omega)
    | false => exact iteF (hF _ H3 hlt hf p3)
  · have e : ys.length = n := by omega
    exact .inl ⟨by rw [e]; exact w.stops H q, hT H (e ▸ hp) fun i hi => ht i (by omega)⟩
/-- max over a walk whose i-th element is g i -/
theorem max_by (w : Walk J n G Y) {te : TE} {Qm : Int → Hp → Prop} {H2 : Hp} (g : Nat → Int) (hn : 0 < n) (Pv : Nat → Hp → Prop) (h0 : Pv 0 H2) (hG : ∀ i H, i ≤ n → Pv i H → G H)
    (hs : ∀ i v H H', i < n → Pv i H → Y i H v H' → ∀ Z : VK, (∀ H3, Pv (i + 1) H3 → Z (.int (g i)) H3) → te [some v] H' Z)
    (hd : ∀ b H, Pv n H → (∃ i, i < n ∧ g i = b) → (∀ i, i < n → g i ≤ b) → Qm b H) :
    ∃ W : WT, (∃ m, W m [] H2) ∧ ∀ m ys H, W m ys H → (J.stop ys.length H ∧ NsMax Qm ys H) ∨
      (J.go ys.length H ∧ ∀ v H', J.yld ys.length H v H' → te [some v] H' (NyMax W m ys)) := by
  refine ⟨fun m ys H => m = n - ys.length ∧ ys.length ≤ n ∧ Pv ys.length H ∧ ys = ((List.range ys.length).map g).map V.int, ⟨n, by simp, Nat.zero_le _, h0, rfl⟩, ?_⟩
  rintro m ys H ⟨rfl, hl, hp, ht⟩
  have q := hG _ H hl hp
  by_cases hlt : ys.length < n
  · refine .inr ⟨w.goes _ H hlt q, fun v H' y => hs _ v H H' hlt hp (w.yields _ H v H' hlt q y) _ fun H3 p3 => ⟨g ys.length, rfl, n - (ys.length + 1), by omega, by rw [List.length_append, List.length_singleton], by rw [List.length_append, List.length_singleton]; exact hlt, by rw [List.length_append, List.length_singleton]; exact p3, ?_⟩⟩
    rw [List.length_append, List.length_singleton, List.range_succ, List.map_append, List.map_append, ← ht]
    rfl
  · have e : ys.length = n := by omega
    refine .inl ⟨by rw [e]; exact w.stops H q, (List.range ys.length).map g, ht, fun z => ?_, fun b hb hm => hd b H (e ▸ hp) ?_ fun i hi => hm _ (List.mem_map.mpr ⟨i, List.mem_range.mpr (by omega), rfl⟩)⟩
    · have := congrArg List.length z
      rw [List.length_map, List.length_range, List.length_nil] at this
      omega
    · obtain ⟨i, hi, e2⟩ := List.mem_map.mp hb
      exact ⟨i, by have := List.mem_range.mp hi; omega, e2⟩
end
theorem tab_ext {P : Addr} {H H' : Hp} (t : GxR.TabG H P) (x : GxR.Tabbed P H H') : LamX.ExtN H H' := fun b o e n => by
  by_cases hb : b = P
  · obtain ⟨ps, h1, _⟩ := t
    rw [hb, h1] at e
    cases e
    exact absurd rfl (n ps)
  · rw [x.2 b hb]; exact e
theorem tabs_tab {cs : List (Addr × Addr)} {P : Addr} {H H' : Hp} (t : Tabs cs H) (x : GxR.Tabbed P H H') : Tabs cs H' := fun p hp => by
  by_cases hb : p.2 = P
  · rw [hb]; exact x.1
  · obtain ⟨ps, h1, h2⟩ := t p hp
    exact ⟨ps, by rw [x.2 _ hb]; exact h1, h2⟩
theorem Ex.refl {cs : List (Addr × Addr)} {H : Hp} (t : Tabs cs H) : Ex cs H H := ⟨LamX.ExtN.refl H, t, fun _ h => h, fun _ _ e _ => e⟩
theorem Ex.tabbed {cs : List (Addr × Addr)} {q : Addr × Addr} {H H' : Hp} (t : Tabs cs H) (m : q ∈ cs) (x : GxR.Tabbed q.2 H H') : Ex cs H H' := ⟨tab_ext (t q m) x, tabs_tab t x, fun b h => by
  by_cases hb : b = q.2
  · obtain ⟨ps, h1, _⟩ := x.1
    rw [hb, h1] at h
    cases h
  · rw [x.2 b hb] at h; exact h, fun b o e n => by
  rw [x.2 b (fun z => n q m z.symm)]
  exact e⟩
theorem Ex.laid {cs : List (Addr × Addr)} {H : Hp} {a : Addr} {o : HO} (t : Tabs cs H) (n : H a = none) : Ex cs H (upd H a o) :=
  ⟨fun b u e _ => by rw [upd_ne (ne_of_none e n)]; exact e, fun p hp => by
    obtain ⟨ps, h1, h2⟩ := t p hp
    exact ⟨ps, by rw [upd_ne (ne_of_none h1 n)]; exact h1, h2⟩, fun b h => (upd_none h).1, fun b u e _ => by
    rw [upd_ne (ne_of_none e n)]
    exact e⟩
/-- a def whose code object is known -/
theorem fun_okT {P : Program} {w : World} {K : PySem.W.Frag} {mg : Str → Option Value} {base : Heap} {x qual : Str} {st : Stmt} {f c : Addr} {fd : FuncData} {N ps : List Str} {k : Nat} {sp : Sp} (F : Fun K x qual st f fd) (hc : fd.code = .ref c) (S : FnScope N ps (defScope st)) (len : ∀ vs H Q E, sp vs H Q E → vs.length = ps.length)
    (hbody : ∀ (A : Around) (outer : List Env) (s : Shared) (H : Hp) (vs : List V) (Q : VK) (E : XK), Room k (A.deeper (envOfC qual (defScope st) s.heap.objs.size f (.ref c))) → sp vs H Q E →
      ∃ t, PSs (cxOf CX0 P w K mg base N qual (defScope st) f (.ref c) A outer s H E).nox (defBody st) t ∧ t { nx := fun _ H' => Q .non H', rt := Q } (start N vs) H) : FnOk P w K mg base CX0 (k + 1) f fd ps sp := by
  obtain ⟨oc, od, kV, doc, pm, an, cdv, ct, osl, rfl, lk, hcd⟩ := F.ex
  have e : cdv = .ref c := hc
  subst e
  refine fn_of lk hcd S len fun A outer s H vs Q E hr hsp => ?_
  obtain ⟨t, h, q⟩ := hbody A outer s H vs Q E hr hsp
  exact ⟨t, h.nox, q⟩
end Gx
namespace TG
open PySem L2 Gx
theorem line10 {n : Nat} (h : n ≤ 1000) : n ≤ sizeLine := Nat.le_trans h (by decide)
theorem dT {c : Prop} [Decidable c] (h : c) : V.bl (decide c) = V.bl true := by rw [decide_eq_true h]
theorem dF {c : Prop} [Decidable c] (h : ¬ c) : V.bl (decide c) = V.bl false := by rw [decide_eq_false h]
theorem qT {c : Prop} [Decidable c] {Q : VK} {H : Hp} (h : c) (k : Q (.bl true) H) : Q (.bl (decide c)) H := by rw [decide_eq_true h]; exact k
theorem qN {c : Prop} [Decidable c] {Q : VK} {H : Hp} (h : ¬ c) (k : Q (.bl true) H) : Q (.bl (!decide c)) H := by rw [decide_eq_false h]; exact k
structure Consts (mg : Str → Option Value) : Prop where
  blank : ∃ t, mg "BLANK" = some (.int 32 t)
  tilde : ∃ t, mg "TILDE" = some (.int 126 t)
  percent : ∃ t, mg "PERCENT" = some (.int 37 t)
  rows : ∃ t, mg "MOST_ROWS" = some (.int 30 t)
  cells : ∃ t, mg "MOST_CELLS" = some (.int 6 t)
  signs : ∃ t, mg "MOST_SIGNS" = some (.int 10 t)
  gap : ∃ t, mg "MOST_GAP" = some (.int 4 t)
  least : ∃ t, mg "MOST_LEAST" = some (.int 12 t)
section
variable {P : Program} {w : World} {K : PySem.W.Frag} {mg : Str → Option Value} {base : Heap}
def spWhole : Sp := fun vs H Q _ => ∃ (i lo hi : Int), vs = [.int i, .int lo, .int hi] ∧ lo ≤ i ∧ i ≤ hi ∧ Q (.bl true) H
theorem sc_whole : FnScope ["value", "low", "high"] ["value", "low", "high"] (defScope s_is_whole) := ⟨rfl, rfl, rfl, by decide +kernel, rfl, by decide +kernel, by decide +kernel⟩
theorem ok_whole {f : Addr} {fd : FuncData} (T : Txt mg) (F : Fun K "is_whole" "is_whole" s_is_whole f fd) : FnOk P w K mg base CX0 1 f fd ["value", "low", "high"] spWhole := by
  refine F.ok sc_whole (fun vs H Q E h => ?_) (fun cdv A outer s H vs Q E hr h => ?_)
  · obtain ⟨i, lo, hi, rfl, _⟩ := h
    rfl
  · obtain ⟨i, lo, hi, rfl, h1, h2, k⟩ := h
    refine ⟨_, pss_one (ps_ret (pe_and (pe_callB call_isi (by rfl) T.isin (by decide +kernel) (pa_cons (pv 0) (pa_cons (pe_bltn (v := .ty "int") (by rfl) T.int (by decide +kernel) rfl) pa_nil)))
      (pe_and (pe_not (pe_callB call_isi (by rfl) T.isin (by decide +kernel) (pa_cons (pv 0) (pa_cons (pe_bltn (v := .ty "bool") (by rfl) T.bool (by decide +kernel) rfl) pa_nil)))) (pe_one (pe_chain op_le op_le (pv 1) (pv 0) (pv 2)))))), ?_⟩
    exact ⟨_, rfl, _, _, _, _, true, rfl, .ty _, .base (.int i), kit_ty (by decide +kernel), true, rfl, iteT ⟨_, rfl, _, _, _, _, false, rfl, .ty _, .base (.int i), kit_ty (by decide +kernel), false, rfl, true, rfl, iteT
      ⟨_, rfl, _, rfl, lo, i, rfl, rfl, true, dT h1, iteT ⟨_, rfl, i, hi, rfl, rfl, qT h2 k⟩⟩⟩⟩
def spSg : Sp := fun vs H Q _ => ∃ c : Nat, vs = [.str ⟨#[c]⟩] ∧ SgOk c ∧ Q (.bl true) H
theorem sc_sg : FnScope ["sign"] ["sign"] (defScope s_is_sign) := ⟨rfl, rfl, rfl, by decide +kernel, rfl, by decide +kernel, by decide +kernel⟩
theorem ok_sg {f : Addr} {fd : FuncData} (T : Txt mg) (N : Consts mg) (F : Fun K "is_sign" "is_sign" s_is_sign f fd) : FnOk P w K mg base CX0 1 f fd ["sign"] spSg := by
  refine F.ok sc_sg (fun vs H Q E h => ?_) (fun cdv A outer s H vs Q E hr h => ?_)
  · obtain ⟨c, rfl, _⟩ := h
    rfl
  · obtain ⟨c, rfl, ⟨h1, h2, h3⟩, k⟩ := h
    obtain ⟨t1, e1⟩ := N.blank
    obtain ⟨t2, e2⟩ := N.tilde
    obtain ⟨t3, e3⟩ := N.percent
    refine ⟨_, pss_one (ps_ret (pe_and (pe_chain op_le op_le (pe_glob (v := .int 32) rfl e1 ⟨_, rfl⟩) (pe_callB call_ord (by rfl) T.ord (by decide +kernel) (pa_cons (pv 0) pa_nil)) (pe_glob (v := .int 126) rfl e2 ⟨_, rfl⟩))
      (pe_one (pe_cmpR op_ne (pe_callB call_ord (by rfl) T.ord (by decide +kernel) (pa_cons (pv 0) pa_nil)) (pe_glob (v := .int 37) rfl e3 ⟨_, rfl⟩) (nomark _))))), ?_⟩
    refine ⟨_, rfl, _, rfl, rfl, 32, (c : Int), rfl, rfl, true, dT (show (32 : Int) ≤ c by omega), iteT ⟨(c : Int), 126, rfl, rfl, ?_⟩⟩
    have e4 : V.bl (decide ((c : Int) ≤ 126)) = V.bl true := dT (by omega)
    refine ⟨true, e4, iteT ⟨_, rfl, _, rfl, rfl, rfl, qN (fun z => ?_) k⟩⟩
    injection z with z
    exact h3 (Int.ofNat.inj z)
def spText (cs : List (Addr × Addr)) : Sp := fun vs H Q _ => ∃ (z : Str) (m : Int), vs = [.str z, .int m] ∧ Tabs cs H ∧ (z.length : Int) ≤ m ∧ z.length ≤ 1000 ∧ (∀ c ∈ z.cps.toList, SgOk c) ∧ ∀ H', Ex cs H H' → Q (.bl true) H'
theorem sc_text : FnScope ["value", "most"] ["value", "most"] (defScope s_is_text) := ⟨rfl, rfl, rfl, by decide +kernel, rfl, by decide +kernel, by decide +kernel⟩
theorem ok_text {f c Pt g : Addr} {fd fdg : FuncData} {cs : List (Addr × Addr)} (T : Txt mg) (F : Fun K "is_text_of_signs" "is_text_of_signs" s_is_text f fd) (hc : fd.code = .ref c) (TB : GxR.TabB base mg c Pt) (hm : (c, Pt) ∈ cs)
    (G : FnOk P w K mg base CX0 1 g fdg ["sign"] spSg) (kp : PySem.W.keepIn K (.ref g) = true) (bd : Binds K fdg ["sign"] []) (mgg : mg "is_sign" = some (.ref g)) : FnOk P w K mg base CX0 5 f fd ["value", "most"] (spText cs) := by
  refine fun_okT F hc sc_text (fun vs H Q E h => ?_) (fun A outer s H vs Q E hr h => ?_)
  · obtain ⟨z, m, rfl, _⟩ := h
    rfl
  · obtain ⟨z, m, rfl, hT, h1, h2, h3, k⟩ := h
    refine ⟨_, pss_one (ps_ret (pe_and (pe_callB call_isi (by rfl) T.isin (by decide +kernel) (pa_cons (pv 0) (pa_cons (pe_bltn (v := .ty "str") (by rfl) T.str (by decide +kernel) rfl) pa_nil)))
      (pe_and (pe_cmpR op_le (pe_callB call_len_str (by rfl) T.len PySem.boot_len (pa_cons (pv 0) pa_nil)) (pv 1) (nomark _))
        (pe_one (pe_allG (k := 1) (P := Pt) hr (by rfl) T.all TB rfl ⟨rfl, rfl, by decide +kernel, by decide +kernel, rfl, rfl⟩ (pi_str (pv 0)) (fun A' code s4 H4 fp hr' => pe_call G hr' (by rfl) mgg kp bd .nil pass0 (pa_cons (pv 0) pa_nil)) (fun _ => rfl)))))), ?_⟩
    refine ⟨_, rfl, _, _, _, _, true, rfl, .ty _, .base (.str z), kit_ty (by decide +kernel), true, rfl, iteT ⟨_, rfl, z, rfl, line10 h2, _, rfl, _, _, rfl, rfl, true, dT h1, iteT ⟨_, rfl, z, rfl, hT _ hm, fun H2 hH2 => ?_⟩⟩⟩
    refine all_by (w := walk_str (z := z)) (fun _ => true) (fun _ H' => H' = H2) rfl (fun _ _ _ _ => trivial) (fun i v H3 H4 hi e y Z hZ => ?_) (fun H3 e _ => ?_) (fun i H3 _ e _ => by cases e)
    · obtain ⟨rfl, c, hc, rfl⟩ := y
      subst e
      refine ⟨_, rfl, c, rfl, h3 c ?_, hZ _ rfl⟩
      exact List.mem_of_getElem? (by rw [Array.getElem?_toList]; exact hc)
    · subst e
      exact k _ (Ex.tabbed hT hm hH2)
end
end TG
namespace TG
open PySem L2 Gx
theorem getP {α : Type} {xs : List α} {i : Nat} (h : i < xs.length) : ∃ x, xs[i]? = some x := ⟨xs[i], List.getElem?_eq_getElem h⟩
section
variable {P : Program} {w : World} {K : PySem.W.Frag} {mg : Str → Option Value} {base : Heap} {cs : List (Addr × Addr)}
def spRow (K : PySem.W.Frag) (cs : List (Addr × Addr)) : Sp := fun vs H Q _ => ∃ (a : Addr) (r : List Str), vs = [.ref a] ∧ Tabs cs H ∧ SqT K H a (sV r) ∧ RowOk r ∧ ∀ H', Ex cs H H' → Q (.bl true) H'
theorem sc_row : FnScope ["value"] ["value"] (defScope s_is_row) := ⟨rfl, rfl, rfl, by decide +kernel, rfl, by decide +kernel, by decide +kernel⟩
theorem ok_isrow {f c Pt g : Addr} {fd fdg : FuncData} (T : Txt mg) (N : Consts mg) (F : Fun K "is_row" "is_row" s_is_row f fd) (hc : fd.code = .ref c) (TB : GxR.TabB base mg c Pt) (hm : (c, Pt) ∈ cs)
    (G : FnOk P w K mg base CX0 5 g fdg ["value", "most"] (spText cs)) (kp : PySem.W.keepIn K (.ref g) = true) (bd : Binds K fdg ["value", "most"] []) (mgg : mg "is_text_of_signs" = some (.ref g)) : FnOk P w K mg base CX0 9 f fd ["value"] (spRow K cs) := by
  refine fun_okT F hc sc_row (fun vs H Q E h => ?_) (fun A outer s H vs Q E hr h => ?_)
  · obtain ⟨a, r, rfl, _⟩ := h
    rfl
  · obtain ⟨a, r, rfl, hT, hS, ⟨p1, p2, p3⟩, k⟩ := h
    obtain ⟨t1, e1⟩ := N.cells
    obtain ⟨t2, e2⟩ := N.signs
    refine ⟨_, pss_cons (ps_if (PW.pt (pw_or (pt_not (pt_val (pe_callB call_isi (by rfl) T.isin (by decide +kernel) (pa_cons (pv 0) (pa_cons (pe_bltn (v := .ty "tuple") (by rfl) T.tuple (by decide +kernel) rfl) pa_nil)))))
        (pw_or1 (pt_not (pt_chain op_le op_le pe_int (pe_callB call_len_seq (by rfl) T.len PySem.boot_len (pa_cons (pv 0) pa_nil)) (pe_glob (v := .int 6) rfl e1 ⟨_, rfl⟩)))))) (pss_one (ps_ret pe_bl)) pss_nil)
      (pss_one (ps_ret (pe_allG (k := 5) (P := Pt) hr (by rfl) T.all TB rfl ⟨rfl, rfl, by decide +kernel, by decide +kernel, rfl, rfl⟩ (pi_tup (pv 0))
        (fun A' code s4 H4 fp hr' => pe_call G hr' (by rfl) mgg kp bd .nil pass0 (pa_cons (pv 0) (pa_cons (pe_glob (v := .int 10) rfl e2 ⟨_, rfl⟩) pa_nil))) (fun _ => rfl)))), ?_⟩
    have hl : (sV r).length = r.length := List.length_map ..
    refine ⟨_, rfl, _, _, _, _, true, rfl, .ty _, ty_tup hS, kit_ty (by decide +kernel), true, rfl, iteF ⟨_, rfl, a, _, rfl, .inr hS, 1, _, rfl, rfl, true, dT (by omega), iteT ⟨_, 6, rfl, rfl, true, dT (by omega), iteF ?_⟩⟩⟩
    refine ⟨_, rfl, a, rfl, ⟨_, hS⟩, hT _ hm, fun H2 hH2 => ?_⟩
    have x2 := Ex.tabbed hT hm hH2
    refine all_by (w := walk_tup (a := a) (xs := sV r)) (fun _ => true) (fun _ H' => Ex cs H H') x2 (fun i H' _ x => x.sqT hS) (fun i v H3 H4 hi x y Z hZ => ?_) (fun H3 x _ => k _ x) (fun i H3 _ e _ => by cases e)
    obtain ⟨rfl, hv⟩ := y
    obtain ⟨z, hz, rfl⟩ := get_map hv
    obtain ⟨c1, c2⟩ := p3 z (List.mem_of_getElem? hz)
    exact ⟨_, rfl, z, 10, rfl, x.tab, by omega, by omega, c2, fun H5 x5 => hZ _ (x.trans x5)⟩
def spCheck (K : PySem.W.Frag) (cs : List (Addr × Addr)) : Sp := fun vs H Q _ => ∃ (a : Addr) (as : List Addr) (rows : List (List Str)), vs = [.ref a] ∧ Tabs cs H ∧ PageAt K H a as rows ∧ PgOk rows ∧ ∀ H', Ex cs H H' → Q .non H'
theorem sc_misfit : FnScope ["rows", "number", "row"] ["rows"] (defScope s_misfit) := ⟨rfl, rfl, rfl, by decide +kernel, rfl, by decide +kernel, by decide +kernel⟩
theorem ok_misfit {f g : Addr} {fd fdg : FuncData} (T : Txt mg) (N : Consts mg) (F : Fun K "first_misfit" "first_misfit" s_misfit f fd)
    (G : FnOk P w K mg base CX0 9 g fdg ["value"] (spRow K cs)) (kp : PySem.W.keepIn K (.ref g) = true) (bd : Binds K fdg ["value"] []) (mgg : mg "is_row" = some (.ref g)) : FnOk P w K mg base CX0 10 f fd ["rows"] (spCheck K cs) := by
  refine F.ok sc_misfit (fun vs H Q E h => ?_) (fun cdv A outer s H vs Q E hr h => ?_)
  · obtain ⟨a, as, rows, rfl, _⟩ := h
    rfl
  · obtain ⟨a, as, rows, rfl, hT, hP, hO, k⟩ := h
    have nd := sc_misfit.nd
    obtain ⟨t1, e1⟩ := N.rows
    refine ⟨_, pss_cons (ps_for PassesOwn.never rfl (pi_enum (by rfl) T.enum (pa_cons (pv 0) pa_nil)) (pg_tup rfl (pgs_cons (pg_name (i := 1) nd rfl (.inl rfl)) (pgs_cons (pg_name (i := 2) nd rfl (.inl rfl)) pgs_nil)))
        (pss_one (ps_if (PW.pt (pw_or (pt_cmpR op_eq (pv 1) (pe_glob (v := .int 30) rfl e1 ⟨_, rfl⟩) (nomark _)) (pw_or1 (pt_not (pt_val (pe_call G hr (by rfl) mgg kp bd .nil pass0 (pa_cons (pv 2) pa_nil))))))) (pss_one ps_never) pss_nil)))
      (pss_one (ps_ret pe_non)), ?_⟩
    have hl : (as.map V.ref).length = rows.length := by rw [List.length_map]; exact hP.len
    have := hO.pos
    have := hO.len
    refine ⟨_, rfl, a, _, rfl, hP.lst, for_it (walk_enum (xs := as.map V.ref)) (fun _ σ H' => Ex cs H H' ∧ σ[0]? = some (some (.ref a)) ∧ σ.length = 3) ⟨Ex.refl hT, rfl, rfl⟩ (fun i σ H' _ x => x.1.sqL hP.lst) ?_ ?_⟩
    · rintro i x σ H3 H4 hi ⟨x3, s0, sl⟩ ⟨Tp, v, u, rfl, hn, rfl, hv, hu⟩
      cases hv
      obtain ⟨p, hp, rfl⟩ := get_map hu
      have hi2 : i < rows.length := by omega
      obtain ⟨r, hr2⟩ := getP hi2
      have xl := Ex.laid (o := .tup [.int (i : Nat), .ref p]) x3.tab hn
      refine ⟨Tp, _, rfl, .inl (.inl upd_same), rfl, _, _, rfl, _, _, rfl, rfl, ?_⟩
      have g1 : ((σ.set 1 (some (V.int (i : Nat)))).set 2 (some (V.ref p)))[1]? = some (some (V.int (i : Nat))) := by
        rw [List.getElem?_set_ne (by decide)]
        exact List.getElem?_set_self (by omega)
      have g2 : ((σ.set 1 (some (V.int (i : Nat)))).set 2 (some (V.ref p)))[2]? = some (some (V.ref p)) := List.getElem?_set_self (by rw [List.length_set]; omega)
      refine ⟨_, g1, rfl, false, dF (fun z => by injection z with z; omega), iteF ⟨_, g2, p, r, rfl, xl.tab, (x3.trans xl).sqT (hP.row i p r hp hr2), hO.rows r (List.mem_of_getElem? hr2), fun H5 x5 => ⟨true, rfl, iteF ⟨(x3.trans xl).trans x5, ?_, ?_⟩⟩⟩⟩
      · rw [List.getElem?_set_ne (by decide), List.getElem?_set_ne (by decide)]; exact s0
      · rw [List.length_set, List.length_set]; exact sl
    · rintro σ H' ⟨x, _⟩
      exact k H' x
theorem sc_check : FnScope ["page", "number"] ["page"] (defScope s_check_page) := ⟨rfl, rfl, rfl, by decide +kernel, rfl, by decide +kernel, by decide +kernel⟩
theorem ok_check {f g : Addr} {fd fdg : FuncData} (T : Txt mg) (F : Fun K "check_page" "check_page" s_check_page f fd)
    (G : FnOk P w K mg base CX0 10 g fdg ["rows"] (spCheck K cs)) (kp : PySem.W.keepIn K (.ref g) = true) (bd : Binds K fdg ["rows"] []) (mgg : mg "first_misfit" = some (.ref g)) : FnOk P w K mg base CX0 11 f fd ["page"] (spCheck K cs) := by
  refine F.ok sc_check (fun vs H Q E h => ?_) (fun cdv A outer s H vs Q E hr h => ?_)
  · obtain ⟨a, as, rows, rfl, _⟩ := h
    rfl
  · obtain ⟨a, as, rows, rfl, hT, hP, hO, k⟩ := h
    have nd := sc_check.nd
    refine ⟨_, pss_cons (ps_if (PW.pt (pw_or (pt_not (pt_val (pe_callB call_isi (by rfl) T.isin (by decide +kernel) (pa_cons (pv 0) (pa_cons (pe_bltn (v := .ty "list") (by rfl) T.list (by decide +kernel) rfl) pa_nil)))))
        (pw_or1 (pt_cmpR op_eq (pe_callB call_len_seq (by rfl) T.len PySem.boot_len (pa_cons (pv 0) pa_nil)) pe_int (nomark _))))) (pss_one ps_never) pss_nil)
      (pss_cons (ps_set (i := 1) nd rfl (.inl rfl) (pe_call G hr (by rfl) mgg kp bd .nil pass0 (pa_cons (pv 0) pa_nil)))
      (pss_one (ps_if (pt_cmpR op_notN (pv 1) pe_non (nomark _)) (pss_one ps_never) pss_nil))), ?_⟩
    have hl : (as.map V.ref).length = rows.length := by rw [List.length_map]; exact hP.len
    have := hO.pos
    have := hO.len
    refine ⟨_, rfl, _, _, _, _, true, rfl, .ty _, ty_list hP.lst, kit_ty (by decide +kernel), true, rfl, iteF ⟨_, rfl, a, _, rfl, .inl hP.lst, rfl, false, dF (fun z => by injection z with z; omega), iteF ?_⟩⟩
    exact ⟨_, rfl, a, as, rows, rfl, hT, hP, hO, fun H' x => ⟨_, rfl, rfl, false, rfl, iteF (k H' x)⟩⟩
def spStyle (K : PySem.W.Frag) : Sp := fun vs H Q _ => ∃ (a : Addr) (gap least : Int), vs = [.ref a] ∧ StyleAt K H a gap least ∧ Q .non H
theorem sc_style : FnScope ["style", "gap", "least"] ["style"] (defScope s_check_style) := ⟨rfl, rfl, rfl, by decide +kernel, rfl, by decide +kernel, by decide +kernel⟩
theorem ok_cstyle {f g : Addr} {fd fdg : FuncData} (T : Txt mg) (N : Consts mg) (F : Fun K "check_style" "check_style" s_check_style f fd)
    (G : FnOk P w K mg base CX0 1 g fdg ["value", "low", "high"] spWhole) (kp : PySem.W.keepIn K (.ref g) = true) (bd : Binds K fdg ["value", "low", "high"] []) (mgg : mg "is_whole" = some (.ref g)) : FnOk P w K mg base CX0 2 f fd ["style"] (spStyle K) := by
  refine F.ok sc_style (fun vs H Q E h => ?_) (fun cdv A outer s H vs Q E hr h => ?_)
  · obtain ⟨a, gap, least, rfl, _⟩ := h
    rfl
  · obtain ⟨a, gap, least, rfl, ⟨hS, g0, g1, l0, l1⟩, k⟩ := h
    have nd := sc_style.nd
    obtain ⟨t1, e1⟩ := N.gap
    obtain ⟨t2, e2⟩ := N.least
    refine ⟨_, pss_cons (ps_if (PW.pt (pw_or (pt_not (pt_val (pe_callB call_isi (by rfl) T.isin (by decide +kernel) (pa_cons (pv 0) (pa_cons (pe_bltn (v := .ty "tuple") (by rfl) T.tuple (by decide +kernel) rfl) pa_nil)))))
        (pw_or1 (pt_cmpR op_ne (pe_callB call_len_seq (by rfl) T.len PySem.boot_len (pa_cons (pv 0) pa_nil)) pe_int (nomark _))))) (pss_one ps_never) pss_nil)
      (pss_cons (ps_asg (pv 0) (pg_tup rfl (pgs_cons (pg_name (i := 1) nd rfl (.inl rfl)) (pgs_cons (pg_name (i := 2) nd rfl (.inl rfl)) pgs_nil))))
      (pss_one (ps_if (PW.pt (pw_or (pt_not (pt_val (pe_call G hr (by rfl) mgg kp bd .nil pass0 (pa_cons (pv 1) (pa_cons pe_int (pa_cons (pe_glob (v := .int 4) rfl e1 ⟨_, rfl⟩) pa_nil))))))
        (pw_or1 (pt_not (pt_val (pe_call G hr (by rfl) mgg kp bd .nil pass0 (pa_cons (pv 2) (pa_cons pe_int (pa_cons (pe_glob (v := .int 12) rfl e2 ⟨_, rfl⟩) pa_nil))))))))) (pss_one ps_never) pss_nil))), ?_⟩
    refine ⟨_, rfl, _, _, _, _, true, rfl, .ty _, ty_tup hS, kit_ty (by decide +kernel), true, rfl, iteF ⟨_, rfl, a, _, rfl, .inr hS, rfl, false, rfl, iteF ?_⟩⟩
    exact ⟨_, rfl, a, _, rfl, hS, rfl, _, _, rfl, _, _, rfl, rfl, _, rfl, gap, 0, 4, rfl, g0, g1, true, rfl, iteF ⟨_, rfl, least, 0, 12, rfl, l0, l1, true, rfl, iteF k⟩⟩
end
end TG
namespace TG
open PySem L2 Gx
theorem digit_lt : ∀ c < 127, Unicode.isDigit c = decide (48 ≤ c ∧ c ≤ 57) := by decide +kernel
theorem isdigit_eq {z : Str} (h : ∀ c ∈ cl z, c < 127) : Txt.isdigit z = (decide (cl z ≠ []) && (cl z).all fun c => decide (48 ≤ c ∧ c ≤ 57)) := by
  obtain ⟨⟨l⟩⟩ := z
  unfold Txt.isdigit
  simp only [Str.length, cl] at h ⊢
  congr 1
  · cases l <;> simp
  · rw [Bool.eq_iff_iff]
    simp only [List.all_eq_true, List.all_toArray]
    constructor
    · intro q c hc
      rw [← digit_lt c (h c hc)]; exact q c hc
    · intro q c hc
      rw [digit_lt c (h c hc)]; exact q c hc
theorem cut1 (z : Str) : cl (cutS z (some 1) none) = (cl z).tail := by
  obtain ⟨⟨l⟩⟩ := z
  unfold cutS
  simp only [cl, Str.length]
  rw [HT.sIx_none, show (some (1 : Int)) = some ((1 : Nat) : Int) from rfl, HT.sIx_nat]
  cases l with
  | nil => simp
  | cons a l => simp
theorem starts_dash (z : Str) : Txt.startswith z "-" = decide ((cl z).head? = some 45) := by
  obtain ⟨⟨l⟩⟩ := z
  have e : ("-" : Str) = ⟨#[45]⟩ := by decide +kernel
  rw [e]
  unfold Txt.startswith Builtin.Str.subAt
  cases l with
  | nil => simp [Str.length, cl]
  | cons a l =>
    simp only [Str.length, cl, List.head?_cons]
    by_cases h : a = 45
    · subst h
      simp
    · simp [h]
theorem str_ext {a b : Str} (h : cl a = cl b) : a = b := by
  obtain ⟨⟨a⟩⟩ := a
  obtain ⟨⟨b⟩⟩ := b
  have h : a = b := h
  rw [h]
section
variable {P : Program} {w : World} {K : PySem.W.Frag} {mg : Str → Option Value} {base : Heap} {cs : List (Addr × Addr)}
def spFig : Sp := fun vs H Q _ => ∃ z : Str, vs = [.str z] ∧ CellOk z ∧ Q (.bl (figB z)) H
theorem sc_isfig : FnScope ["cell"] ["cell"] (defScope s_is_figures) := ⟨rfl, rfl, rfl, by decide +kernel, rfl, by decide +kernel, by decide +kernel⟩
theorem ok_isfig {f : Addr} {fd : FuncData} (F : Fun K "is_figures" "is_figures" s_is_figures f fd) : FnOk P w K mg base CX0 1 f fd ["cell"] spFig := by
  refine F.ok sc_isfig (fun vs H Q E h => ?_) (fun cdv A outer s H vs Q E hr h => ?_)
  · obtain ⟨z, rfl, _⟩ := h
    rfl
  · obtain ⟨z, rfl, ⟨h1, h2⟩, k⟩ := h
    refine ⟨_, pss_cons (ps_if (pt_val (pe_m1 PySem.F.slot_str_startswith PySem.F.type_str_startswith mt_startswith (pv 0) pe_str)) (pss_one (ps_ret (pe_m0 PySem.F.slot_str_isdigit PySem.F.type_str_isdigit mt_isdigit (pe_slice sl_str (pv 0) (po_some pe_int) po_none)))) pss_nil)
      (pss_one (ps_ret (pe_m0 PySem.F.slot_str_isdigit PySem.F.type_str_isdigit mt_isdigit (pv 0)))), ?_⟩
    have lt : ∀ c ∈ cl z, c < 127 := fun c hc => by have := h2 c hc; unfold SgOk at this; omega
    refine ⟨_, rfl, ⟨_, rfl⟩, z, _, rfl, rfl, _, rfl, ?_⟩
    rw [starts_dash]
    by_cases hd : (cl z).head? = some 45
    · rw [decide_eq_true hd]
      refine iteT ⟨_, rfl, 1, rfl, z, rfl, line10 (by omega), ⟨_, rfl⟩, _, rfl, rfl, trivial, ?_⟩
      have e : Txt.isdigit (cutS z (some 1) none) = figB z := by
        rw [isdigit_eq (fun c hc => lt c (by rw [cut1] at hc; exact List.mem_of_mem_tail hc)), cut1]
        unfold figB restL
        rw [if_pos hd]
      rw [e]
      exact k
    · rw [decide_eq_false hd]
      refine iteF ⟨_, rfl, ⟨_, rfl⟩, _, rfl, rfl, trivial, ?_⟩
      have e : Txt.isdigit z = figB z := by
        rw [isdigit_eq lt]
        unfold figB restL
        rw [if_neg hd]
      rw [e]
      exact k
end
end TG
namespace TG
open PySem L2 Gx
theorem ne_empty (z : Str) : (!decide (V.str z = V.str "")) = decide (cl z ≠ []) := by
  have e : ("" : Str) = ⟨#[]⟩ := by decide +kernel
  by_cases h : cl z = []
  · have q : z = "" := str_ext (by rw [h, e])
    rw [decide_eq_true (show V.str z = V.str "" by rw [q]), decide_eq_false (fun n => n h)]
    rfl
  · rw [decide_eq_false (show ¬ V.str z = V.str "" from fun q => h (by injection q with q; rw [q, e])), decide_eq_true h]
    rfl
theorem filter_take {α : Type} {p : α → Bool} {xs : List α} {i : Nat} {x : α} (h : xs[i]? = some x) : (xs.take (i + 1)).filter p = (xs.take i).filter p ++ (if p x = true then [x] else []) := by
  rw [List.take_add_one, h, List.filter_append]
  congr 1
  by_cases hp : p x = true
  · rw [if_pos hp]
    simp [hp]
  · rw [if_neg hp]
    simp [hp]
section
variable {P : Program} {w : World} {K : PySem.W.Frag} {mg : Str → Option Value} {base : Heap} {cs : List (Addr × Addr)}
def spRight (K : PySem.W.Frag) (cs : List (Addr × Addr)) : Sp := fun vs H Q _ => ∃ (a : Addr) (zs : List Str), vs = [.ref a] ∧ Tabs cs H ∧ SqL K H a (sV zs) ∧ zs.length ≤ 1000 ∧ (∀ z ∈ zs, CellOk z) ∧ ∀ H', Ex cs H H' → Q (.bl (rightB zs)) H'
theorem sc_right : FnScope ["cells", "filled", "cell"] ["cells"] (defScope s_stands_right) := ⟨rfl, rfl, rfl, by decide +kernel, rfl, by decide +kernel, by decide +kernel⟩
theorem ok_right {f c Pt g : Addr} {fd fdg : FuncData} (T : Txt mg) (F : Fun K "stands_right" "stands_right" s_stands_right f fd) (hc : fd.code = .ref c) (TB : GxR.TabB base mg c Pt) (hm : (c, Pt) ∈ cs)
    (G : FnOk P w K mg base CX0 1 g fdg ["cell"] spFig) (kp : PySem.W.keepIn K (.ref g) = true) (bd : Binds K fdg ["cell"] []) (mgg : mg "is_figures" = some (.ref g)) : FnOk P w K mg base CX0 5 f fd ["cells"] (spRight K cs) := by
  refine fun_okT F hc sc_right (fun vs H Q E h => ?_) (fun A outer s H vs Q E hr h => ?_)
  · obtain ⟨a, zs, rfl, _⟩ := h
    rfl
  · obtain ⟨a, zs, rfl, hT, hS, hl, hz, k⟩ := h
    have nd := sc_right.nd
    refine ⟨_, pss_cons (ps_setLc (i := 1) (own := [("cell", 2)]) (g := gName 2) rfl nd rfl rfl (sw_true rfl rfl rfl (by decide +kernel)) (pi_list (pv 0)) (blkOk_by (own := [("cell", 2)]) (N := ["cells", "filled", "cell"]) (sc := defScope s_stands_right) (by decide +kernel))
        (fun _ _ _ _ _ => pg_name (i := 2) nd rfl (Or.inl rfl)) (fun _ _ _ _ _ => pts_one (pt_cmpR op_ne (pv 2) pe_str (nomark _))) (fun _ _ _ _ _ => pv 2))
      (pss_one (ps_ret (pe_and (pe_cmpR op_gt (pe_callB call_len_seq (by rfl) T.len PySem.boot_len (pa_cons (pv 1) pa_nil)) pe_int (nomark _))
        (pe_one (pe_allG (k := 1) (P := Pt) hr (by rfl) T.all TB rfl ⟨rfl, rfl, by decide +kernel, by decide +kernel, rfl, rfl⟩ (pi_list (pv 1)) (fun A' code s4 H4 fp hr' => pe_call G hr' (by rfl) mgg kp bd .nil pass0 (pa_cons (pv 0) pa_nil)) (fun _ => rfl)))))), ?_⟩
    have ls : (sV zs).length = zs.length := List.length_map ..
    refine ⟨_, rfl, a, rfl, ⟨_, hS⟩, fun D nD => lc_list (xs := sV zs) (fun i H' => Ex cs H H' ∧ H' D = some (.lst (sV (fillB (zs.take i))))) ⟨Ex.laid hT nD, upd_same⟩ (fun i H' _ p => p.1.sqL hS) ?_ ?_⟩
    · rintro i x H1 hx ⟨x1, hD⟩
      obtain ⟨z, hz1, rfl⟩ := get_map hx
      have hi : i < zs.length := (List.getElem?_eq_some_iff.mp hz1).1
      have hf := filter_take (p := fun z => decide (cl z ≠ [])) hz1
      refine ⟨rfl, _, rfl, rfl, _, rfl, ?_⟩
      rw [ne_empty]
      by_cases hc : cl z ≠ []
      · rw [decide_eq_true hc]
        rw [if_pos (decide_eq_true hc)] at hf
        refine iteT ⟨_, rfl, _, hD, ?_, ex_new hT x1 nD, ?_⟩
        · have q : (fillB (zs.take i)).length ≤ (zs.take i).length := List.length_filter_le ..
          have q2 : (sV (fillB (zs.take i))).length = (fillB (zs.take i)).length := List.length_map ..
          rw [List.length_take] at q
          have : (1000 : Nat) < sizeLine := by decide
          omega
        · rw [upd_same]
          unfold fillB
          rw [hf]
          simp [sV]
      · rw [decide_eq_false hc]
        rw [if_neg (by rw [decide_eq_false hc]; exact Bool.false_ne_true), List.append_nil] at hf
        refine iteF ⟨x1, ?_⟩
        unfold fillB
        rw [hf]
        exact hD
    · rintro H1 ⟨x1, hD⟩
      rw [ls, List.take_of_length_le (Nat.le_refl _)] at hD
      have hf : ∀ z ∈ fillB zs, CellOk z := fun z h => hz z (List.mem_filter.mp h).1
      refine ⟨_, rfl, D, _, rfl, .inl (SqL.of hD), _, 0, rfl, rfl, _, rfl, ?_⟩
      have lf : (sV (fillB zs)).length = (fillB zs).length := List.length_map ..
      by_cases hn : fillB zs = []
      · have e0 : decide (((sV (fillB zs)).length : Int) > 0) = false := decide_eq_false (by rw [hn]; simp)
        rw [e0]
        refine iteF ?_
        have e : rightB zs = false := by
          unfold rightB
          rw [decide_eq_false (fun q => q hn)]
          rfl
        rw [← e]
        exact k _ x1
      · have hp : 0 < (fillB zs).length := List.length_pos_iff.mpr hn
        have e0 : decide (((sV (fillB zs)).length : Int) > 0) = true := decide_eq_true (by omega)
        rw [e0]
        refine iteT ⟨_, rfl, D, rfl, ⟨_, SqL.of hD⟩, x1.tab _ hm, fun H2 hH2 => ?_⟩
        have x2 := Ex.tabbed x1.tab hm hH2
        have hR : rightB zs = (fillB zs).all figB := by
          unfold rightB
          rw [decide_eq_true hn, Bool.true_and]
        refine all_by (w := walk_list (a := D) (xs := sV (fillB zs))) (fun i => match (fillB zs)[i]? with | some z => figB z | none => true) (fun _ H' => Ex cs H H' ∧ H' D = some (.lst (sV (fillB zs)))) ⟨x1.trans x2, x2.ext _ _ hD fun ps q => by cases q⟩ (fun i H' _ x => SqL.of x.2) (fun i v H3 H4 hi x y Z hZ => ?_) (fun H3 x hall => ?_) (fun i H3 hi hff x => ?_)
        · obtain ⟨rfl, hv⟩ := y
          obtain ⟨z, hz2, rfl⟩ := get_map hv
          refine ⟨_, rfl, z, rfl, hf z (List.mem_of_getElem? hz2), ?_⟩
          have := hZ _ x
          rw [hz2] at this
          exact this
        · have e : rightB zs = true := by
            rw [hR, List.all_eq_true]
            intro z hzm
            obtain ⟨i, hi, e⟩ := List.getElem_of_mem hzm
            have q := hall i (by omega)
            rw [List.getElem?_eq_getElem hi, e] at q
            exact q
          rw [← e]
          exact k _ x.1
        · have e : rightB zs = false := by
            rw [hR, Bool.eq_false_iff]
            intro q
            rw [List.all_eq_true] at q
            have hi2 : i < (fillB zs).length := by omega
            rw [List.getElem?_eq_getElem hi2] at hff
            have := q _ (List.getElem_mem hi2)
            rw [show figB (fillB zs)[i] = false from hff] at this
            cases this
          rw [← e]
          exact k _ x.1
end
end TG
namespace TG
open PySem L2 Gx
def stB (rows : List (List Str)) (c i : Nat) : Bool := clB rows c i && (decide (i = 0) || !clB rows c (i - 1))
def runsB (rows : List (List Str)) (c : Nat) : List (Nat × Nat) := ((List.range rows.length).filter (stB rows c)).map fun i => (i, hiB rows c i)
theorem hi_yes {rows : List (List Str)} {c i : Nat} (h : clB rows c i = true) : hiB rows c i = hiB rows c (i + 1) := by
  unfold clB at h
  cases e : rows[i]? with
  | none => rw [e] at h; cases h
  | some r =>
    rw [e] at h
    obtain ⟨hi, e2⟩ := List.getElem?_eq_some_iff.mp e
    have h' : decide (c + 1 < r.length) = true := h
    unfold hiB
    rw [List.drop_eq_getElem_cons hi, e2, List.takeWhile_cons, h', if_pos rfl, List.length_cons]
    omega
theorem hi_no {rows : List (List Str)} {c i : Nat} (h : clB rows c i = false) : hiB rows c i = i := by
  unfold clB at h
  unfold hiB
  cases e : rows[i]? with
  | none =>
    have hl : rows.length ≤ i := List.getElem?_eq_none_iff.mp e
    rw [List.drop_of_length_le hl]
    rfl
  | some r =>
    rw [e] at h
    obtain ⟨hi, e2⟩ := List.getElem?_eq_some_iff.mp e
    have h' : decide (c + 1 < r.length) = false := h
    rw [List.drop_eq_getElem_cons hi, e2, List.takeWhile_cons, h', if_neg Bool.false_ne_true]
    rfl
theorem hi_ge (rows : List (List Str)) (c i : Nat) : i ≤ hiB rows c i := Nat.le_add_right ..
theorem cl_lt {rows : List (List Str)} {c i : Nat} (h : clB rows c i = true) : i < rows.length := by
  unfold clB at h
  cases e : rows[i]? with
  | none => rw [e] at h; cases h
  | some r => exact (List.getElem?_eq_some_iff.mp e).1
theorem hi_le {rows : List (List Str)} {c i : Nat} (h : i ≤ rows.length) : hiB rows c i ≤ rows.length := by
  unfold hiB
  have := (List.takeWhile_prefix (l := rows.drop i) (fun r : List Str => decide (c + 1 < r.length))).length_le
  rw [List.length_drop] at this
  omega
theorem hi_in {rows : List (List Str)} {c : Nat} : ∀ (d i j : Nat), j = i + d → j < hiB rows c i → clB rows c j = true := by
  intro d
  induction d with
  | zero =>
    intro i j e h
    have e' : j = i := by omega
    subst e'
    cases hc : clB rows c j with
    | true => rfl
    | false =>
      rw [hi_no hc] at h
      omega
  | succ d ih =>
    intro i j e h
    cases hc : clB rows c i with
    | true =>
      rw [hi_yes hc] at h
      exact ih (i + 1) j (by omega) h
    | false =>
      rw [hi_no hc] at h
      omega
/-- one turn of the outer loop -/
theorem starts_turn {rows : List (List Str)} {c k : Nat} (hk : k = 0 ∨ clB rows c (k - 1) = false) :
    (List.range (hiB rows c k + 1)).filter (stB rows c) = (List.range k).filter (stB rows c) ++ (if clB rows c k = true then [k] else []) := by
  have key : ∀ d, k + d ≤ hiB rows c k → (List.range (k + d + 1)).filter (stB rows c) = (List.range k).filter (stB rows c) ++ (if clB rows c k = true then [k] else []) := by
    intro d
    induction d with
    | zero =>
      intro _
      rw [Nat.add_zero, List.range_succ, List.filter_append]
      congr 1
      have e : stB rows c k = clB rows c k := by
        unfold stB
        rcases hk with h | h
        · rw [decide_eq_true h]; simp
        · rw [h]; simp
      by_cases hc : clB rows c k = true
      · rw [if_pos hc]
        simp [e, hc]
      · rw [if_neg hc]
        simp [e, hc]
    | succ d ih =>
      intro hle
      rw [← Nat.add_assoc, List.range_succ, List.filter_append, ih (by omega)]
      have h1 : clB rows c (k + d) = true := hi_in d k (k + d) rfl (by omega)
      have e : stB rows c (k + d + 1) = false := by
        unfold stB
        rw [Nat.add_sub_cancel, h1, decide_eq_false (by omega)]
        simp
      simp [e]
  have h0 := hi_ge rows c k
  have := key (hiB rows c k - k) (by omega)
  rw [show k + (hiB rows c k - k) + 1 = hiB rows c k + 1 by omega] at this
  exact this
theorem starts_end {rows : List (List Str)} {c k : Nat} (h1 : rows.length ≤ k) : (List.range k).filter (stB rows c) = (List.range rows.length).filter (stB rows c) := by
  obtain ⟨d, rfl⟩ : ∃ d, k = rows.length + d := ⟨k - rows.length, by omega⟩
  clear h1
  induction d with
  | zero => rfl
  | succ d ih =>
    rw [← Nat.add_assoc, List.range_succ, List.filter_append, ih]
    have e : stB rows c (rows.length + d) = false := by
      unfold stB
      cases hc : clB rows c (rows.length + d) with
      | true => have := cl_lt hc; omega
      | false => rfl
    simp [e]
theorem PairsAt.snoc {H : Hp} {ts : List Addr} {ps : List (Nat × Nat)} {t : Addr} {p : Nat × Nat} (h : PairsAt H ts ps) (e : H t = some (.tup [.int (p.1 : Nat), .int (p.2 : Nat)])) : PairsAt H (ts ++ [t]) (ps ++ [p]) := by
  refine ⟨by rw [List.length_append, List.length_append, h.len]; rfl, fun i u q h1 h2 => ?_⟩
  by_cases hi : i < ts.length
  · rw [List.getElem?_append_left hi] at h1
    rw [List.getElem?_append_left (by rw [← h.len]; exact hi)] at h2
    exact h.at_ i u q h1 h2
  · have hl := (List.getElem?_eq_some_iff.mp h1).1
    rw [List.length_append, List.length_singleton] at hl
    have e1 : i = ts.length := by omega
    subst e1
    rw [List.getElem?_append_right (Nat.le_refl _), Nat.sub_self] at h1
    rw [h.len, List.getElem?_append_right (Nat.le_refl _), Nat.sub_self] at h2
    cases h1
    cases h2
    exact e
section
variable {P : Program} {w : World} {K : PySem.W.Frag} {mg : Str → Option Value} {base : Heap} {cs : List (Addr × Addr)}
def spClosed (K : PySem.W.Frag) : Sp := fun vs H Q _ => ∃ (p : Addr) (r : List Str) (c : Nat), vs = [.ref p, .int (c : Nat)] ∧ SqT K H p (sV r) ∧ Q (.bl (decide (c + 1 < r.length))) H
theorem sc_closed : FnScope ["row", "column"] ["row", "column"] (defScope s_is_closed) := ⟨rfl, rfl, rfl, by decide +kernel, rfl, by decide +kernel, by decide +kernel⟩
theorem ok_closed {f : Addr} {fd : FuncData} (T : Txt mg) (F : Fun K "is_closed" "is_closed" s_is_closed f fd) : FnOk P w K mg base CX0 1 f fd ["row", "column"] (spClosed K) := by
  refine F.ok sc_closed (fun vs H Q E h => ?_) (fun cdv A outer s H vs Q E hr h => ?_)
  · obtain ⟨p, r, c, rfl, _⟩ := h
    rfl
  · obtain ⟨p, r, c, rfl, hS, k⟩ := h
    refine ⟨_, pss_one (ps_ret (pe_cmpR op_lt (pe_op op_add (pv 1) pe_int) (pe_callB call_len_seq (by rfl) T.len PySem.boot_len (pa_cons (pv 0) pa_nil)) (nomark _))), ?_⟩
    refine ⟨_, rfl, c, 1, rfl, rfl, _, rfl, p, _, rfl, .inr hS, _, _, rfl, rfl, ?_⟩
    have ls : (sV r).length = r.length := List.length_map ..
    have e : decide ((c : Int) + 1 < ((sV r).length : Int)) = decide (c + 1 < r.length) := by
      rw [ls]
      by_cases h : c + 1 < r.length
      · rw [decide_eq_true h, decide_eq_true (by omega)]
      · rw [decide_eq_false h, decide_eq_false (by omega)]
    show Q (.bl (decide ((c : Int) + 1 < ((sV r).length : Int)))) H
    rw [e]
    exact k
def spRuns (K : PySem.W.Frag) (cs : List (Addr × Addr)) : Sp := fun vs H Q _ => ∃ (a : Addr) (as : List Addr) (rows : List (List Str)) (c : Nat), vs = [.ref a, .int (c : Nat)] ∧ Tabs cs H ∧ PageAt K H a as rows ∧ rows.length ≤ 30 ∧
  ∀ (r : Addr) (ts : List Addr) (H' : Hp), Ex cs H H' → H r = none → H' r = some (.lst (ts.map V.ref)) → PairsAt H' ts (runsB rows c) → Q (.ref r) H'
theorem sc_runs : FnScope ["page", "column", "runs", "begin", "end"] ["page", "column"] (defScope s_closed_runs) := ⟨rfl, rfl, rfl, by decide +kernel, rfl, by decide +kernel, by decide +kernel⟩
theorem ok_runs {f g : Addr} {fd fdg : FuncData} (T : Txt mg) (F : Fun K "closed_runs" "closed_runs" s_closed_runs f fd)
    (G : FnOk P w K mg base CX0 1 g fdg ["row", "column"] (spClosed K)) (kp : PySem.W.keepIn K (.ref g) = true) (bd : Binds K fdg ["row", "column"] []) (mgg : mg "is_closed" = some (.ref g)) : FnOk P w K mg base CX0 2 f fd ["page", "column"] (spRuns K cs) := by
  refine F.ok sc_runs (fun vs H Q E h => ?_) (fun cdv A outer s H vs Q E hr h => ?_)
  · obtain ⟨a, as, rows, c, rfl, _⟩ := h
    rfl
  · obtain ⟨a, as, rows, c, rfl, hT, hP, hn, k⟩ := h
    have nd := sc_runs.nd
    refine ⟨_, pss_cons (ps_set (i := 2) nd rfl (.inl rfl) (pe_lst pa_nil)) (pss_cons (ps_set (i := 3) nd rfl (.inl rfl) pe_int)
      (pss_cons (ps_while PassesOwn.never (pt_cmpR op_lt (pv 3) (pe_callB call_len_seq (by rfl) T.len PySem.boot_len (pa_cons (pv 0) pa_nil)) (nomark _))
        (pss_cons (ps_set (i := 4) nd rfl (.inl rfl) (pv 3))
        (pss_cons (ps_while PassesOwn.never (PW.pt (pw_and (pt_cmpR op_lt (pv 4) (pe_callB call_len_seq (by rfl) T.len PySem.boot_len (pa_cons (pv 0) pa_nil)) (nomark _)) (pw_and1 (pt_val (pe_call G hr (by rfl) mgg kp bd .nil pass0 (pa_cons (pe_ix ix_list (pv 0) (pv 4) (fun _ _ => rfl)) (pa_cons (pv 1) pa_nil)))))))
            (pss_one (ps_aug (i := 4) nd rfl (.inl rfl) pe_int ip_add)))
        (pss_cons (ps_if (pt_cmpR op_gt (pv 4) (pv 3) (nomark _)) (pss_one (ps_expr (pe_bm PySem.F.plainAttrs_list PySem.F.slot_list_append PySem.F.type_list_append mt_append (pv 2) (pa_cons (pe_tup (pa_cons (pv 3) (pa_cons (pv 4) pa_nil))) pa_nil)))) pss_nil)
        (pss_one (ps_set (i := 3) nd rfl (.inl rfl) (pe_op op_add (pv 4) pe_int)))))))
      (pss_one (ps_ret (pv 2))))), ?_⟩
    refine ⟨small0, fun p np => ?_⟩
    -- the outer loop
    let runsAt : Nat → List (Nat × Nat) := fun k => ((List.range k).filter (stB rows c)).map fun i => (i, hiB rows c i)
    let Out : Nat → L2.St → Hp → Prop := fun m σ H1 => ∃ (b : Nat) (ts : List Addr) (e : Option V), σ = [some (.ref a), some (.int (c : Nat)), some (.ref p), some (.int (b : Nat)), e] ∧ m = rows.length + 1 - b ∧ b ≤ rows.length + 1 ∧ (b = 0 ∨ clB rows c (b - 1) = false) ∧ Ex cs H H1 ∧ H1 p = some (.lst (ts.map V.ref)) ∧ PairsAt H1 ts (runsAt b)
    refine ⟨Out, ⟨_, 0, [], none, rfl, rfl, Nat.zero_le _, .inl rfl, Ex.laid hT np, upd_same, rfl, fun i t q h => by simp at h⟩, ?_⟩
    rintro m σ H1 ⟨b, ts, e, rfl, rfl, hb, hst, x1, hp1, pr⟩
    have hl : (as.map V.ref).length = rows.length := by rw [List.length_map]; exact hP.len
    refine ⟨_, rfl, _, rfl, a, _, rfl, .inl (x1.sqL hP.lst), _, _, rfl, rfl, _, rfl, ?_⟩
    by_cases hlt : b < rows.length
    · rw [decide_eq_true (show (b : Int) < ((as.map V.ref).length : Int) by omega)]
      refine iteT ⟨Out (rows.length + 1 - (hiB rows c b + 1)), fun σ' H' o => ⟨_, by have := hi_ge rows c b; omega, o⟩, ?_⟩
      refine ⟨_, rfl, ?_⟩
      let Inn : Nat → L2.St → Hp → Prop := fun m σ H2 => ∃ e : Nat, σ = [some (.ref a), some (.int (c : Nat)), some (.ref p), some (.int (b : Nat)), some (.int (e : Nat))] ∧ m = rows.length - e ∧ b ≤ e ∧ e ≤ rows.length ∧ hiB rows c e = hiB rows c b ∧ H2 = H1
      refine ⟨Inn, ⟨_, b, rfl, rfl, Nat.le_refl _, Nat.le_of_lt hlt, rfl, rfl⟩, ?_⟩
      rintro m2 σ2 H2 ⟨e2, rfl, rfl, h1, h2, h3, rfl⟩
      refine ⟨_, rfl, _, rfl, a, _, rfl, .inl (x1.sqL hP.lst), _, _, rfl, rfl, _, rfl, ?_⟩
      have hsz : (ts.map V.ref).length < sizeLine := by
        have q1 : (runsAt b).length ≤ (List.range b).length := by
          show (((List.range b).filter (stB rows c)).map _).length ≤ _
          rw [List.length_map]
          exact List.length_filter_le ..
        rw [List.length_range] at q1
        rw [List.length_map, pr.len]
        have : (1000 : Nat) < sizeLine := by decide
        omega
      cases hcl : clB rows c e2 with
      | true =>
        have hlt2 := cl_lt hcl
        obtain ⟨q, hq⟩ := getP (xs := as) (i := e2) (by rw [hP.len]; exact hlt2)
        obtain ⟨r, hr2⟩ := getP hlt2
        have hcr : decide (c + 1 < r.length) = true := by
          unfold clB at hcl
          rw [hr2] at hcl
          exact hcl
        rw [decide_eq_true (show (e2 : Int) < ((as.map V.ref).length : Int) by omega)]
        refine iteT ⟨_, rfl, _, rfl, a, _, e2, .ref q, rfl, rfl, x1.sqL hP.lst, atI_nat (by rw [List.getElem?_map, hq]; rfl), _, rfl, q, r, c, rfl, x1.sqT (hP.row e2 q r hq hr2), true, by rw [hcr], iteT ?_⟩
        refine ⟨Inn (rows.length - (e2 + 1)), fun σ' H' o => ⟨_, by omega, o⟩, _, rfl, e2, 1, rfl, rfl, e2 + 1, rfl, rfl, by omega, by omega, by rw [← hi_yes hcl]; exact h3, rfl⟩
      | false =>
        have hnc := hcl
        have he : hiB rows c b = e2 := h3.symm.trans (hi_no hnc)
        by_cases hlt2 : e2 < rows.length
        · obtain ⟨q, hq⟩ := getP (xs := as) (i := e2) (by rw [hP.len]; exact hlt2)
          obtain ⟨r, hr2⟩ := getP hlt2
          have hcr : decide (c + 1 < r.length) = false := by
            unfold clB at hcl
            rw [hr2] at hcl
            exact hcl
          rw [decide_eq_true (show (e2 : Int) < ((as.map V.ref).length : Int) by omega)]
          refine iteT ⟨_, rfl, _, rfl, a, _, e2, .ref q, rfl, rfl, x1.sqL hP.lst, atI_nat (by rw [List.getElem?_map, hq]; rfl), _, rfl, q, r, c, rfl, x1.sqT (hP.row e2 q r hq hr2), false, by rw [hcr], iteF ?_⟩
          refine ⟨_, rfl, _, rfl, _, _, rfl, rfl, _, rfl, ?_⟩
          by_cases hgt : b < e2
          · rw [decide_eq_true (show (b : Int) < (e2 : Int) by omega)]
            refine iteT ⟨_, rfl, .inl ⟨rfl, _, SqL.of hp1⟩, _, rfl, _, rfl, (by show 2 ≤ sizeLine; decide), fun t nt => ⟨p, ts.map V.ref, .ref t, rfl, rfl, (by rw [upd_ne (ne_of_none hp1 nt)]; exact hp1), hsz, ?_⟩⟩
            refine ⟨_, rfl, e2, 1, rfl, rfl, ?_⟩
            have ntp : t ≠ p := fun z => by rw [z, hp1] at nt; cases nt
            have eR : runsAt (e2 + 1) = runsAt b ++ [(b, e2)] := by
              show ((List.range (e2 + 1)).filter (stB rows c)).map _ = _
              rw [← he, starts_turn hst, if_pos (hi_in 0 b b rfl (by omega)), List.map_append]
              rfl
            refine ⟨e2 + 1, ts ++ [t], some (.int (e2 : Nat)), rfl, by omega, by omega, .inr (by rw [Nat.add_sub_cancel]; exact hnc), ex_new hT (x1.trans (Ex.laid x1.tab nt)) np, ?_, ?_⟩
            · rw [upd_same, List.map_append]; rfl
            · rw [eR]
              refine (pr.keep fun q xs h => ?_).snoc ?_
              · rw [upd_ne (fun z => by rw [z, hp1] at h; cases h), upd_ne (ne_of_none h nt)]; exact h
              · rw [upd_ne ntp, upd_same]
          · rw [decide_eq_false (show ¬ (b : Int) < (e2 : Int) by omega)]
            refine iteF ⟨_, rfl, e2, 1, rfl, rfl, ?_⟩
            have eR : runsAt (e2 + 1) = runsAt b := by
              show ((List.range (e2 + 1)).filter (stB rows c)).map _ = _
              rw [← he, starts_turn hst, if_neg (fun z => by rw [hi_yes z] at he; have := hi_ge rows c (b + 1); omega), List.append_nil]
            refine ⟨e2 + 1, ts, some (.int (e2 : Nat)), rfl, by omega, by omega, .inr (by rw [Nat.add_sub_cancel]; exact hnc), x1, hp1, ?_⟩
            rw [eR]
            exact pr

        · rw [decide_eq_false (show ¬ (e2 : Int) < ((as.map V.ref).length : Int) by omega)]
          refine iteF (iteF ?_)
          refine ⟨_, rfl, _, rfl, _, _, rfl, rfl, _, rfl, ?_⟩
          by_cases hgt : b < e2
          · rw [decide_eq_true (show (b : Int) < (e2 : Int) by omega)]
            refine iteT ⟨_, rfl, .inl ⟨rfl, _, SqL.of hp1⟩, _, rfl, _, rfl, (by show 2 ≤ sizeLine; decide), fun t nt => ⟨p, ts.map V.ref, .ref t, rfl, rfl, (by rw [upd_ne (ne_of_none hp1 nt)]; exact hp1), hsz, ?_⟩⟩
            refine ⟨_, rfl, e2, 1, rfl, rfl, ?_⟩
            have ntp : t ≠ p := fun z => by rw [z, hp1] at nt; cases nt
            have eR : runsAt (e2 + 1) = runsAt b ++ [(b, e2)] := by
              show ((List.range (e2 + 1)).filter (stB rows c)).map _ = _
              rw [← he, starts_turn hst, if_pos (hi_in 0 b b rfl (by omega)), List.map_append]
              rfl
            refine ⟨e2 + 1, ts ++ [t], some (.int (e2 : Nat)), rfl, by omega, by omega, .inr (by rw [Nat.add_sub_cancel]; exact hnc), ex_new hT (x1.trans (Ex.laid x1.tab nt)) np, ?_, ?_⟩
            · rw [upd_same, List.map_append]; rfl
            · rw [eR]
              refine (pr.keep fun q xs h => ?_).snoc ?_
              · rw [upd_ne (fun z => by rw [z, hp1] at h; cases h), upd_ne (ne_of_none h nt)]; exact h
              · rw [upd_ne ntp, upd_same]
          · rw [decide_eq_false (show ¬ (b : Int) < (e2 : Int) by omega)]
            refine iteF ⟨_, rfl, e2, 1, rfl, rfl, ?_⟩
            have eR : runsAt (e2 + 1) = runsAt b := by
              show ((List.range (e2 + 1)).filter (stB rows c)).map _ = _
              rw [← he, starts_turn hst, if_neg (fun z => by rw [hi_yes z] at he; have := hi_ge rows c (b + 1); omega), List.append_nil]
            refine ⟨e2 + 1, ts, some (.int (e2 : Nat)), rfl, by omega, by omega, .inr (by rw [Nat.add_sub_cancel]; exact hnc), x1, hp1, ?_⟩
            rw [eR]
            exact pr
    · rw [decide_eq_false (show ¬ (b : Int) < ((as.map V.ref).length : Int) by omega)]
      refine iteF ⟨_, rfl, ?_⟩
      refine k p ts H1 x1 np hp1 ?_
      have e1 : runsAt b = runsB rows c := by
        show ((List.range b).filter (stB rows c)).map _ = _
        rw [starts_end (by omega)]
        rfl
      rw [← e1]
      exact pr
end
end TG
namespace TG
open PySem L2 Gx
theorem long_ge : ∀ {zs : List Str} {z : Str}, z ∈ zs → z.length ≤ longB zs
  | y :: zs, z, h => by
    rcases List.mem_cons.mp h with e | e
    · subst e; exact Nat.le_max_left _ _
    · exact Nat.le_trans (long_ge e) (Nat.le_max_right _ _)
theorem long_in : ∀ {zs : List Str}, zs ≠ [] → ∃ z ∈ zs, z.length = longB zs
  | [z], _ => ⟨z, List.mem_singleton.mpr rfl, by simp [longB]⟩
  | z :: y :: zs, _ => by
    obtain ⟨x, hx, e⟩ := long_in (zs := y :: zs) (by simp)
    by_cases h : longB (y :: zs) ≤ z.length
    · exact ⟨z, List.mem_cons_self, (Nat.max_eq_left h).symm⟩
    · exact ⟨x, List.mem_cons_of_mem _ hx, by rw [e]; exact (Nat.max_eq_right (by omega)).symm⟩
theorem cells_len {rows : List (List Str)} {c b e : Nat} (h : e ≤ rows.length) : (cellsB rows c b e).length = e - b := by
  unfold cellsB
  rw [List.length_map, List.length_take, List.length_drop]
  omega
theorem cells_get {rows : List (List Str)} {c b e i : Nat} (h : b + i < e) {r : List Str} (hr : rows[b + i]? = some r) : (cellsB rows c b e)[i]? = some (r.getD c nilS) := by
  unfold cellsB
  rw [List.getElem?_map, List.getElem?_take_of_lt (by omega), List.getElem?_drop, hr]
  rfl
theorem cells_mem {rows : List (List Str)} {c b e : Nat} (hO : PgOk rows) (hc : ∀ i, b ≤ i → i < e → clB rows c i = true) (he : e ≤ rows.length) {z : Str} (h : z ∈ cellsB rows c b e) : CellOk z := by
  obtain ⟨i, hi, e1⟩ := List.getElem_of_mem h
  rw [cells_len he] at hi
  obtain ⟨r, hr⟩ := getP (xs := rows) (i := b + i) (by omega)
  have q := cells_get (c := c) (b := b) (e := e) (i := i) (by omega) hr
  have hcl := hc (b + i) (by omega) (by omega)
  unfold clB at hcl
  rw [hr] at hcl
  have hcr : c + 1 < r.length := of_decide_eq_true hcl
  rw [List.getElem?_eq_getElem (by rw [cells_len he]; exact hi), e1] at q
  cases q
  have := (hO.rows r (List.mem_of_getElem? hr)).cells (r[c]'(by omega)) (List.getElem_mem _)
  rw [List.getD_eq_getElem?_getD, List.getElem?_eq_getElem (by omega)]
  exact this
theorem cut_mid {xs : List V} {b e : Nat} (h1 : b ≤ e) (h2 : e ≤ xs.length) : cutV xs (some (b : Int)) (some (e : Int)) = (xs.drop b).take (e - b) := by
  unfold cutV
  rw [HT.sIx_nat, HT.sIx_nat, Nat.min_eq_left h2, Nat.min_eq_left (Nat.le_trans h1 h2)]
section
variable {P : Program} {w : World} {K : PySem.W.Frag} {mg : Str → Option Value} {base : Heap} {cs : List (Addr × Addr)}
def spDesc (K : PySem.W.Frag) (cs : List (Addr × Addr)) : Sp := fun vs H Q _ => ∃ (a st : Addr) (as : List Addr) (rows : List (List Str)) (gap least : Int) (c b e : Nat), vs = [.ref a, .ref st, .int (c : Nat), .int (b : Nat), .int (e : Nat)] ∧ Tabs cs H ∧ PageAt K H a as rows ∧ PgOk rows ∧ StyleAt K H st gap least ∧
  b < e ∧ e ≤ rows.length ∧ (∀ i, b ≤ i → i < e → clB rows c i = true) ∧ ∀ (t h : Addr) (H' : Hp), Ex cs H H' → H t = none → H h = none → DescAt H' t h c b e (cellsB rows c b e) gap least → Q (.ref t) H'
theorem sc_desc : FnScope ["page", "style", "column", "begin", "end", "gap", "least", "cells", "longest", "holders", "row", "at", "cell"] ["page", "style", "column", "begin", "end"] (defScope s_described) := ⟨rfl, rfl, rfl, by decide +kernel, rfl, by decide +kernel, by decide +kernel⟩
theorem ok_desc {f c Pt g : Addr} {fd fdg : FuncData} (T : Txt mg) (F : Fun K "described" "described" s_described f fd) (hc : fd.code = .ref c) (TB : GxR.TabB base mg c Pt) (hm : (c, Pt) ∈ cs)
    (G : FnOk P w K mg base CX0 5 g fdg ["cells"] (spRight K cs)) (kp : PySem.W.keepIn K (.ref g) = true) (bd : Binds K fdg ["cells"] []) (mgg : mg "stands_right" = some (.ref g)) : FnOk P w K mg base CX0 6 f fd ["page", "style", "column", "begin", "end"] (spDesc K cs) := by
  refine fun_okT F hc sc_desc (fun vs H Q E h => ?_) (fun A outer s H vs Q E hr h => ?_)
  · obtain ⟨a, st, as, rows, gap, least, cc, b, e, rfl, _⟩ := h
    rfl
  · obtain ⟨a, st, as, rows, gap, least, cc, b, e, rfl, hT, hP, hO, ⟨hS, _⟩, hbe, hen, hcl, k⟩ := h
    have nd := sc_desc.nd
    refine ⟨_, pss_cons (ps_asg (pv 1) (pg_tup rfl (pgs_cons (pg_name (i := 5) nd rfl (.inl rfl)) (pgs_cons (pg_name (i := 6) nd rfl (.inl rfl)) pgs_nil))))
      (pss_cons (ps_setLc (i := 7) (own := [("row", 10)]) (g := gName 10) rfl nd rfl rfl (sw_true rfl rfl rfl (by decide +kernel)) (pi_list (pe_slice sl_list (pv 0) (po_some (pv 3)) (po_some (pv 4)))) (blkOk_by (own := [("row", 10)]) (N := ["page", "style", "column", "begin", "end", "gap", "least", "cells", "longest", "holders", "row", "at", "cell"]) (sc := defScope s_described) (by decide +kernel))
        (fun _ _ _ _ _ => pg_name (i := 10) nd rfl (Or.inl rfl)) (fun _ _ _ _ _ => pts_nil) (fun _ _ _ _ _ => pe_ix (r := rIxT K) ix_tup (pv 10) (pv 2) (fun _ _ => rfl)))
      (pss_cons (ps_set (i := 8) nd rfl (.inr rfl) (pe_maxG (k := 0) (P := Pt) (hr.mono (by decide)) (by rfl) T.max TB rfl ⟨rfl, rfl, by decide +kernel, by decide +kernel, rfl, rfl⟩ (pi_list (pv 7)) (fun A' code s4 H4 fp hr' => pe_callB call_len_str (by rfl) T.len PySem.boot_len (pa_cons (pv 0) pa_nil)) (fun _ => rfl)))
      (pss_cons (ps_set (i := 9) nd rfl (.inl rfl) (pe_lst pa_nil))
      (pss_cons (ps_if (pt_cmpR op_gt (pe_op op_add (pv 8) (pv 5)) (pv 6) (nomark _))
        (pss_one (ps_setLc (i := 9) (own := [("at", 11), ("cell", 12)]) (g := gTup K 2 (gCons (gName 11) (gCons (gName 12) gNil))) rfl nd rfl rfl (sw_true rfl rfl rfl (by decide +kernel)) (pi_enum (by rfl) T.enum (pa_cons (pv 7) pa_nil)) (blkOk_by (own := [("at", 11), ("cell", 12)]) (N := ["page", "style", "column", "begin", "end", "gap", "least", "cells", "longest", "holders", "row", "at", "cell"]) (sc := defScope s_described) (by decide +kernel))
          (fun _ _ _ _ _ => pg_tup rfl (pgs_cons (pg_name (i := 11) nd rfl (.inl rfl) (.inr rfl)) (pgs_cons (pg_name (i := 12) nd rfl (.inl rfl) (.inr rfl)) pgs_nil))) (fun _ _ _ _ _ => pts_one (pt_cmpR op_eq (pe_callB call_len_str (by rfl) T.len PySem.boot_len (pa_cons (pv 12) pa_nil)) (pv 8) (nomark _))) (fun _ _ _ _ _ => pe_op op_add (pv 3) (pv 11)))) pss_nil)
      (pss_one (ps_ret (pe_tup (pa_cons (pv 2) (pa_cons (pv 3) (pa_cons (pv 4) (pa_cons (pe_callB (call_max2 rfl) (by rfl) T.max (by decide +kernel) (pa_cons (pe_op op_add (pv 8) (pv 5)) (pa_cons (pv 6) pa_nil))) (pa_cons (pe_call G hr (by rfl) mgg kp bd .nil pass0 (pa_cons (pv 7) pa_nil)) (pa_cons (pv 9) pa_nil))))))))))))), ?_⟩
    have hL : cutV (as.map V.ref) (some (b : Int)) (some (e : Int)) = ((as.drop b).take (e - b)).map V.ref := by
      rw [cut_mid (by omega) (by rw [List.length_map, hP.len]; exact hen), ← List.map_drop, ← List.map_take]
    have lc := cells_len (c := cc) (b := b) hen
    have ll := hO.len
    have lsz : (1000 : Nat) < sizeLine := by decide
    have lsV : (sV (cellsB rows cc b e)).length = e - b := by rw [List.length_map, lc]
    have sll : ((as.drop b).take (e - b)).length = e - b := by rw [List.length_take, List.length_drop, hP.len]; omega
    refine ⟨_, rfl, st, _, rfl, hS, rfl, _, _, rfl, _, _, rfl, rfl, ?_⟩
    refine ⟨_, rfl, _, rfl, (b : Int), rfl, _, rfl, (e : Int), rfl, a, _, rfl, hP.lst, fun p np => ?_⟩
    rw [hL]
    refine ⟨p, rfl, ⟨_, SqL.of upd_same⟩, fun D nD => lc_list (xs := ((as.drop b).take (e - b)).map V.ref) (fun i H' => Ex cs H H' ∧ H' p = some (.lst (((as.drop b).take (e - b)).map V.ref)) ∧ H' D = some (.lst (sV ((cellsB rows cc b e).take i)))) ?_ (fun i H' _ x => SqL.of x.2.1) ?_ ?_⟩
    · have x1 := Ex.laid (o := .lst (((as.drop b).take (e - b)).map V.ref)) hT np
      exact ⟨x1.trans (Ex.laid x1.tab nD), by rw [upd_ne (fun z => by rw [← z, upd_same] at nD; cases nD), upd_same], upd_same⟩
    · rintro i v H1 hv ⟨x1, hp, hD⟩
      obtain ⟨q, hq, rfl⟩ := get_map hv
      have hi : i < e - b := by have := (List.getElem?_eq_some_iff.mp hq).1; omega
      rw [List.getElem?_take_of_lt hi, List.getElem?_drop] at hq
      obtain ⟨r, hr2⟩ := getP (xs := rows) (i := b + i) (by omega)
      have hc1 := hcl (b + i) (by omega) (by omega)
      unfold clB at hc1
      rw [hr2] at hc1
      have hcr : cc + 1 < r.length := of_decide_eq_true hc1
      have hz : (sV r)[cc]? = some (V.str (r.getD cc nilS)) := by
        rw [List.getElem?_map, List.getD_eq_getElem?_getD, List.getElem?_eq_getElem (by omega)]; rfl
      have nD0 : H D = none := (Ex.laid (o := .lst (((as.drop b).take (e - b)).map V.ref)) hT np).old _ nD
      refine ⟨rfl, _, rfl, _, rfl, q, sV r, cc, _, rfl, rfl, x1.sqT (hP.row _ q r hq hr2), atI_nat hz, _, hD, ?_, ex_new hT x1 nD0, ?_, ?_⟩
      · rw [List.length_map, List.length_take]; omega
      · rw [upd_ne (fun z => by rw [← z, upd_same] at nD; cases nD)]; exact hp
      · rw [upd_same, List.take_add_one, cells_get (by omega) hr2]
        simp [sV]
    · rintro H1 ⟨x1, hp, hD⟩
      rw [List.length_map, sll, ← lc, List.take_of_length_le (Nat.le_refl _)] at hD
      -- longest
      refine ⟨_, rfl, D, rfl, ⟨_, SqL.of hD⟩, x1.tab _ hm, fun H2 hH2 => ?_⟩
      have x2 := x1.trans (Ex.tabbed x1.tab hm hH2)
      have hD2 := (Ex.tabbed x1.tab hm hH2).lst hD
      refine max_by (w := walk_list (a := D) (xs := sV (cellsB rows cc b e))) (fun i => ((((cellsB rows cc b e).getD i nilS).length : Nat) : Int)) (by omega) (fun _ H' => Ex cs H H' ∧ H' D = some (.lst (sV (cellsB rows cc b e)))) ⟨x2, hD2⟩ (fun i H' _ x => SqL.of x.2) (fun i v H3 H4 hi x y Z hZ => ?_) (fun m H3 x3 hex hall => ?_)
      · obtain ⟨rfl, hv⟩ := y
        obtain ⟨z, hz, rfl⟩ := get_map hv
        refine ⟨_, rfl, z, rfl, line10 (by have := (cells_mem hO hcl hen (List.mem_of_getElem? hz)).len; omega), ?_⟩
        have q := hZ _ x
        have ez : (cellsB rows cc b e).getD i nilS = z := by rw [List.getD_eq_getElem?_getD, hz]; rfl
        rw [ez] at q
        exact q
      · obtain ⟨x3, hD3⟩ := x3
        have em : m = ((longB (cellsB rows cc b e) : Nat) : Int) := by
          obtain ⟨i, hi, e1⟩ := hex
          obtain ⟨z, hz, e2⟩ := long_in (zs := cellsB rows cc b e) (fun q => by rw [q] at lc; simp at lc; omega)
          obtain ⟨j, hj, e3⟩ := List.getElem_of_mem hz
          have h1 := hall j (by omega)
          rw [List.getD_eq_getElem?_getD, List.getElem?_eq_getElem hj, e3] at h1
          have h1' : ((z.length : Nat) : Int) ≤ m := h1
          rw [List.getD_eq_getElem?_getD, List.getElem?_eq_getElem (by omega)] at e1
          have h2 := long_ge (List.getElem_mem (l := cellsB rows cc b e) (show i < _ by omega))
          have e1' : (((cellsB rows cc b e)[i]'(by omega)).length : Int) = m := e1
          omega
        subst em
        refine ⟨small0, fun h0 nh0 => ?_⟩
        have x4 := x3.trans (Ex.laid (o := .lst []) x3.tab nh0)
        have hD4 := (Ex.laid (o := .lst []) x3.tab nh0).lst hD3
        refine ⟨_, rfl, _, rfl, _, _, rfl, rfl, _, rfl, _, _, rfl, rfl, _, rfl, ?_⟩
        by_cases hg : least < ((longB (cellsB rows cc b e) : Nat) : Int) + gap
        · rw [decide_eq_true hg]
          refine iteT ⟨_, rfl, D, _, rfl, SqL.of hD4, fun D2 nD2 => lc_it (walk_enum (xs := sV (cellsB rows cc b e))) (fun i H' => Ex cs H H' ∧ H' D = some (.lst (sV (cellsB rows cc b e))) ∧ H' D2 = some (.lst (((List.range i).filter fun j => decide (((cellsB rows cc b e).getD j nilS).length = longB (cellsB rows cc b e))).map fun j => V.int ((b + j : Nat) : Int)))) ?_ (fun i H' _ x => SqL.of x.2.1) ?_ ?_⟩
          · exact ⟨x4.trans (Ex.laid x4.tab nD2), (Ex.laid x4.tab nD2).lst hD4, upd_same⟩
          · rintro i v H5 H6 hi ⟨x5, hD5, hh⟩ ⟨Tp, v1, u, rfl, hn, rfl, hv, hu⟩
            cases hv
            obtain ⟨z, hz, rfl⟩ := get_map hu
            have xl := Ex.laid (o := .tup [.int (i : Nat), .str z]) x5.tab hn
            have ez : (cellsB rows cc b e).getD i nilS = z := by rw [List.getD_eq_getElem?_getD, hz]; rfl
            have zl := (cells_mem hO hcl hen (List.mem_of_getElem? hz)).len
            refine ⟨Tp, _, rfl, .inl (.inl upd_same), rfl, _, _, rfl, _, _, rfl, rfl, rfl, _, rfl, z, rfl, line10 (by omega), _, rfl, rfl, _, rfl, ?_⟩
            have nD20 := x4.old _ nD2
            by_cases hzl : z.length = longB (cellsB rows cc b e)
            · rw [decide_eq_true (show V.int ((z.length : Nat) : Int) = V.int ((longB (cellsB rows cc b e) : Nat) : Int) by rw [hzl])]
              refine iteT ⟨_, rfl, _, rfl, _, _, rfl, rfl, _, xl.lst hh, ?_, ex_new hT (x5.trans xl) nD20, ?_, ?_⟩
              · have q : ((List.range i).filter fun j => decide (((cellsB rows cc b e).getD j nilS).length = longB (cellsB rows cc b e))).length ≤ (List.range i).length := List.length_filter_le ..
                rw [List.length_range] at q
                rw [List.length_map]
                omega
              · rw [upd_ne (fun z => by rw [← z] at nD2; rw [nD2] at hD4; cases hD4)]
                exact xl.lst hD5
              · have ef : [i].filter (fun j => decide (((cellsB rows cc b e).getD j nilS).length = longB (cellsB rows cc b e))) = [i] := by
                  simp only [List.filter_cons, List.filter_nil, ez, decide_eq_true hzl, if_true]
                rw [upd_same, List.range_succ, List.filter_append, List.map_append, ef, List.map_cons, List.map_nil, Int.natCast_add]
            · rw [decide_eq_false (show ¬ V.int ((z.length : Nat) : Int) = V.int ((longB (cellsB rows cc b e) : Nat) : Int) from fun q => hzl (by injection q with q; exact Int.ofNat.inj q))]
              refine iteF ⟨x5.trans xl, xl.lst hD5, ?_⟩
              rw [List.range_succ, List.filter_append, List.map_append]
              simp only [List.filter_cons, List.filter_nil, ez, decide_eq_false hzl]
              simpa using xl.lst hh
          · rintro H5 ⟨x5, hD5, hh⟩
            have h5 : H5 D2 = some (.lst ((holdB (cellsB rows cc b e) b gap least).map V.int)) := by
              rw [hh]
              unfold holdB
              rw [if_pos hg, List.map_map, lsV, lc]
              rfl
            have nHH := x4.old _ nD2
            refine ⟨_, rfl, _, rfl, _, rfl, _, rfl, _, rfl, _, _, rfl, rfl, _, rfl, _, _, rfl, _, rfl, D, cellsB rows cc b e, rfl, x5.tab, SqL.of hD5, by omega, fun z hz => cells_mem hO hcl hen hz, fun H6 x6 => ⟨_, rfl, (by show 6 ≤ sizeLine; decide), fun t nt => ?_⟩⟩
            have x7 := Ex.laid (o := .tup [.int (cc : Nat), .int (b : Nat), .int (e : Nat), .int (widthB (cellsB rows cc b e) gap least), .bl (rightB (cellsB rows cc b e)), .ref D2]) x6.tab nt
            exact k t D2 _ ((x5.trans x6).trans x7) ((x5.trans x6).old _ nt) nHH ⟨upd_same, (x6.trans x7).lst h5⟩
        · rw [decide_eq_false hg]
          have x5 := x4
          have hD5 := hD4
          have h5 : (upd H3 h0 (.lst [])) h0 = some (.lst ((holdB (cellsB rows cc b e) b gap least).map V.int)) := by
            rw [upd_same]
            unfold holdB
            rw [if_neg hg]
            rfl
          have nHH := x3.old _ nh0
          refine iteF ?_
          refine ⟨_, rfl, _, rfl, _, rfl, _, rfl, _, rfl, _, _, rfl, rfl, _, rfl, _, _, rfl, _, rfl, D, cellsB rows cc b e, rfl, x5.tab, SqL.of hD5, by omega, fun z hz => cells_mem hO hcl hen hz, fun H6 x6 => ⟨_, rfl, (by show 6 ≤ sizeLine; decide), fun t nt => ?_⟩⟩
          have x7 := Ex.laid (o := .tup [.int (cc : Nat), .int (b : Nat), .int (e : Nat), .int (widthB (cellsB rows cc b e) gap least), .bl (rightB (cellsB rows cc b e)), .ref h0]) x6.tab nt
          exact k t h0 _ ((x5.trans x6).trans x7) ((x5.trans x6).old _ nt) nHH ⟨upd_same, (x6.trans x7).lst h5⟩
end
end TG
namespace TG
open PySem L2 Gx
def ofCol (rows : List (List Str)) (c : Nat) : List (Nat × Nat × Nat) := (runsB rows c).map fun p => (c, p.1, p.2)
def entB (rows : List (List Str)) : List (Nat × Nat × Nat) := (List.range 5).flatMap (ofCol rows)
theorem flat_short {α : Type} {F : Nat → List α} {k : Nat} (h : ∀ c, k ≤ c → F c = []) : ∀ d, (List.range (k + d)).flatMap F = (List.range k).flatMap F := by
  intro d
  induction d with
  | zero => rfl
  | succ d ih =>
    rw [← Nat.add_assoc, List.range_succ, List.flatMap_append, ih, List.flatMap_cons, h (k + d) (by omega)]
    simp
theorem col_nil {rows : List (List Str)} {c m : Nat} (h : ∀ r ∈ rows, r.length ≤ m) (hc : m ≤ c + 1) : ofCol rows c = [] := by
  have e : ∀ i, stB rows c i = false := fun i => by
    unfold stB
    have : clB rows c i = false := by
      unfold clB
      cases q : rows[i]? with
      | none => rfl
      | some r => exact decide_eq_false (by have := h r (List.mem_of_getElem? q); omega)
    rw [this]
    rfl
  unfold ofCol runsB
  have : (List.range rows.length).filter (stB rows c) = [] := List.filter_eq_nil_iff.mpr fun i _ => by rw [e i]; exact Bool.false_ne_true
  rw [this]
  rfl
theorem cols_eq {rows : List (List Str)} {m : Nat} (h : ∀ r ∈ rows, r.length ≤ m) (h6 : m ≤ 6) : (List.range m).flatMap (ofCol rows) = entB rows := by
  have e := flat_short (F := ofCol rows) (k := m - 1) fun c hc => col_nil h (by omega)
  have e1 := e (m - (m - 1))
  have e2 := e (5 - (m - 1))
  rw [show m - 1 + (m - (m - 1)) = m by omega] at e1
  rw [show m - 1 + (5 - (m - 1)) = 5 by omega] at e2
  unfold entB
  rw [e1, e2]
theorem run_facts {rows : List (List Str)} {c i : Nat} {p : Nat × Nat} (h : (runsB rows c)[i]? = some p) : p.1 < p.2 ∧ p.2 ≤ rows.length ∧ ∀ j, p.1 ≤ j → j < p.2 → clB rows c j = true := by
  obtain ⟨x, hx, rfl⟩ := get_map h
  have hm := List.mem_filter.mp (List.mem_of_getElem? hx)
  have hst := hm.2
  have hc : clB rows c x = true := by
    unfold stB at hst
    exact (Bool.and_eq_true_iff.mp hst).1
  refine ⟨?_, hi_le (Nat.le_of_lt (cl_lt hc)), fun j h1 h2 => hi_in (j - x) x j (by omega) h2⟩
  show x < hiB rows c x
  rw [hi_yes hc]
  exact hi_ge rows c (x + 1)
theorem DescsAt.snoc {H : Hp} {ts hs : List Addr} {es : List (Nat × Nat × Nat)} {rows : List (List Str)} {gap least : Int} {t h : Addr} {q : Nat × Nat × Nat} (x : DescsAt H ts hs es rows gap least) (e : DescAt H t h q.1 q.2.1 q.2.2 (cellsB rows q.1 q.2.1 q.2.2) gap least) : DescsAt H (ts ++ [t]) (hs ++ [h]) (es ++ [q]) rows gap least := by
  refine ⟨by rw [List.length_append, List.length_append, x.len]; rfl, by rw [List.length_append, List.length_append, x.len2]; rfl, fun i u v p h1 h2 h3 => ?_⟩
  by_cases hi : i < ts.length
  · rw [List.getElem?_append_left hi] at h1
    rw [List.getElem?_append_left (by rw [x.len2, ← x.len]; exact hi)] at h2
    rw [List.getElem?_append_left (by rw [← x.len]; exact hi)] at h3
    exact x.at_ i u v p h1 h2 h3
  · have hl := (List.getElem?_eq_some_iff.mp h1).1
    rw [List.length_append, List.length_singleton] at hl
    have e1 : i = ts.length := by omega
    subst e1
    rw [List.getElem?_append_right (Nat.le_refl _), Nat.sub_self] at h1
    rw [x.len, ← x.len2, List.getElem?_append_right (Nat.le_refl _), Nat.sub_self] at h2
    rw [x.len, List.getElem?_append_right (Nat.le_refl _), Nat.sub_self] at h3
    cases h1
    cases h2
    cases h3
    exact e
theorem flat_len {α : Type} {F : Nat → List α} {b : Nat} (h : ∀ c, (F c).length ≤ b) : ∀ n, ((List.range n).flatMap F).length ≤ n * b := by
  intro n
  induction n with
  | zero => simp
  | succ n ih =>
    rw [List.range_succ, List.flatMap_append, List.length_append, List.flatMap_cons, List.flatMap_nil, List.append_nil, Nat.succ_mul]
    have := h n
    omega
theorem col_len (rows : List (List Str)) (c : Nat) : (ofCol rows c).length ≤ rows.length := by
  unfold ofCol runsB
  rw [List.length_map, List.length_map]
  have : ((List.range rows.length).filter (stB rows c)).length ≤ (List.range rows.length).length := List.length_filter_le ..
  rw [List.length_range] at this
  exact this
def rLenSeq (K : PySem.W.Frag) : List V → Hp → VK → Prop := fun xs H Q => ∃ p ys, xs = [V.ref p] ∧ (SqL K H p ys ∨ SqT K H p ys) ∧ Q (.int (ys.length : Nat)) H
section
variable {P : Program} {w : World} {K : PySem.W.Frag} {mg : Str → Option Value} {base : Heap} {cs : List (Addr × Addr)}
def spStr (K : PySem.W.Frag) (cs : List (Addr × Addr)) : Sp := fun vs H Q _ => ∃ (a st : Addr) (as : List Addr) (rows : List (List Str)) (gap least : Int), vs = [.ref a, .ref st] ∧ Tabs cs H ∧ PageAt K H a as rows ∧ PgOk rows ∧ StyleAt K H st gap least ∧
  ∀ (r : Addr) (ts hs : List Addr) (H' : Hp), Ex cs H H' → H r = none → (∀ t ∈ ts, H t = none) → (∀ h ∈ hs, H h = none) → H' r = some (.lst (ts.map V.ref)) → DescsAt H' ts hs (entB rows) rows gap least → Q (.ref r) H'
theorem sc_str : FnScope ["page", "style", "told", "column", "begin", "end"] ["page", "style"] (defScope s_stretches) := ⟨rfl, rfl, rfl, by decide +kernel, rfl, by decide +kernel, by decide +kernel⟩
theorem ok_str {f c Pt g1 g2 g3 g4 : Addr} {fd fd1 fd2 fd3 fd4 : FuncData} (T : Txt mg) (F : Fun K "stretches" "stretches" s_stretches f fd) (hc : fd.code = .ref c) (TB : GxR.TabB base mg c Pt) (hm : (c, Pt) ∈ cs)
    (G1 : FnOk P w K mg base CX0 11 g1 fd1 ["page"] (spCheck K cs)) (k1 : PySem.W.keepIn K (.ref g1) = true) (b1 : Binds K fd1 ["page"] []) (m1 : mg "check_page" = some (.ref g1))
    (G2 : FnOk P w K mg base CX0 2 g2 fd2 ["style"] (spStyle K)) (k2 : PySem.W.keepIn K (.ref g2) = true) (b2 : Binds K fd2 ["style"] []) (m2 : mg "check_style" = some (.ref g2))
    (G3 : FnOk P w K mg base CX0 2 g3 fd3 ["page", "column"] (spRuns K cs)) (k3 : PySem.W.keepIn K (.ref g3) = true) (b3 : Binds K fd3 ["page", "column"] []) (m3 : mg "closed_runs" = some (.ref g3))
    (G4 : FnOk P w K mg base CX0 6 g4 fd4 ["page", "style", "column", "begin", "end"] (spDesc K cs)) (k4 : PySem.W.keepIn K (.ref g4) = true) (b4 : Binds K fd4 ["page", "style", "column", "begin", "end"] []) (m4 : mg "described" = some (.ref g4)) :
    FnOk P w K mg base CX0 12 f fd ["page", "style"] (spStr K cs) := by
  refine fun_okT F hc sc_str (fun vs H Q E h => ?_) (fun A outer s H vs Q E hr h => ?_)
  · obtain ⟨a, st, as, rows, gap, least, rfl, _⟩ := h
    rfl
  · obtain ⟨a, st, as, rows, gap, least, rfl, hT, hP, hO, hS, k⟩ := h
    have nd := sc_str.nd
    refine ⟨_, pss_cons (ps_expr (pe_call G1 hr (by rfl) m1 k1 b1 .nil pass0 (pa_cons (pv 0) pa_nil))) (pss_cons (ps_expr (pe_call G2 (hr.mono (by decide)) (by rfl) m2 k2 b2 .nil pass0 (pa_cons (pv 1) pa_nil)))
      (pss_cons (ps_set (i := 2) nd rfl (.inl rfl) (pe_lst pa_nil))
      (pss_cons (ps_for PassesOwn.never rfl (pi_range1 (by rfl) T.range (pa_cons (pe_maxG (k := 0) (P := Pt) (hr.mono (by decide)) (by rfl) T.max TB rfl ⟨rfl, rfl, by decide +kernel, by decide +kernel, rfl, rfl⟩ (pi_list (pv 0)) (fun A' code s4 H4 fp hr' => pe_callB (r := rLenSeq K) call_len_seq (by rfl) T.len PySem.boot_len (pa_cons (pv 0) pa_nil)) (fun _ => rfl)) pa_nil)) (pg_name (i := 3) nd rfl (.inl rfl))
        (pss_one (ps_for PassesOwn.never rfl (pi_list (pe_call G3 (hr.mono (by decide)) (by rfl) m3 k3 b3 .nil pass0 (pa_cons (pv 0) (pa_cons (pv 3) pa_nil)))) (pg_tup rfl (pgs_cons (pg_name (i := 4) nd rfl (.inl rfl)) (pgs_cons (pg_name (i := 5) nd rfl (.inl rfl)) pgs_nil)))
          (pss_one (ps_expr (pe_bm PySem.F.plainAttrs_list PySem.F.slot_list_append PySem.F.type_list_append mt_append (pv 2) (pa_cons (pe_call G4 (hr.mono (by decide)) (by rfl) m4 k4 b4 .nil pass0 (pa_cons (pv 0) (pa_cons (pv 1) (pa_cons (pv 3) (pa_cons (pv 4) (pa_cons (pv 5) pa_nil)))))) pa_nil)))))))
      (pss_one (ps_ret (pv 2)))))), ?_⟩
    have ll := hO.len
    have lp := hO.pos
    have lsz : (1000 : Nat) < sizeLine := by decide
    have las : (as.map V.ref).length = rows.length := by rw [List.length_map, hP.len]
    refine ⟨_, rfl, a, as, rows, rfl, hT, hP, hO, fun H1 x1 => ⟨_, rfl, st, gap, least, rfl, hS.ex x1, small0, fun p np => ?_⟩⟩
    have x2 := x1.trans (Ex.laid (o := .lst []) x1.tab np)
    have np0 := x1.old _ np
    refine ⟨_, rfl, a, rfl, ⟨_, x2.sqL hP.lst⟩, x2.tab _ hm, fun H2 hH2 => ?_⟩
    have xt := Ex.tabbed x2.tab hm hH2
    have x3 := x2.trans xt
    have hp3 : H2 p = some (.lst []) := xt.lst upd_same
    refine max_by (w := walk_list (a := a) (xs := as.map V.ref)) (fun i => (((rows.getD i []).length : Nat) : Int)) (by omega) (fun _ H' => Ex cs H H' ∧ H' p = some (.lst [])) ⟨x3, hp3⟩ (fun i H' _ x => x.1.sqL hP.lst) (fun i v H3 H4 hi x y Z hZ => ?_) (fun m H3 x4 hex hall => ?_)
    · obtain ⟨rfl, hv⟩ := y
      obtain ⟨q, hq, rfl⟩ := get_map hv
      obtain ⟨r, hr2⟩ := getP (xs := rows) (i := i) (by omega)
      refine ⟨_, rfl, q, _, rfl, .inr (x.1.sqT (hP.row i q r hq hr2)), ?_⟩
      have z := hZ _ x
      have er : rows.getD i [] = r := by rw [List.getD_eq_getElem?_getD, hr2]; rfl
      rw [er] at z
      rw [List.length_map]
      exact z
    · obtain ⟨x4, hp4⟩ := x4
      have hmax : ∀ r ∈ rows, r.length ≤ m.toNat := fun r hr2 => by
        obtain ⟨j, hj, e⟩ := List.getElem_of_mem hr2
        have h1 := hall j (by omega)
        rw [List.getD_eq_getElem?_getD, List.getElem?_eq_getElem hj, e] at h1
        have h1' : ((r.length : Nat) : Int) ≤ m := h1
        omega
      have hm6 : m.toNat ≤ 6 := by
        obtain ⟨i, hi, e1⟩ := hex
        rw [List.getD_eq_getElem?_getD, List.getElem?_eq_getElem (by omega)] at e1
        have h2 := (hO.rows _ (List.getElem_mem (l := rows) (show i < _ by omega))).len
        have e1' : ((rows[i]'(by omega)).length : Int) = m := e1
        omega
      have hm0 : 0 ≤ m := by
        obtain ⟨i, hi, e1⟩ := hex
        rw [← e1]
        exact Int.natCast_nonneg _
      refine ⟨m, rfl, by omega, by omega, for_range (n := m.toNat) (fun i σ H' => ∃ (ts hs : List Addr) (c3 c4 c5 : Option V), σ = [some (.ref a), some (.ref st), some (.ref p), c3, c4, c5] ∧ Ex cs H H' ∧ H' p = some (.lst (ts.map V.ref)) ∧ (∀ t ∈ ts, H t = none ∧ t ≠ p) ∧ (∀ h ∈ hs, H h = none ∧ h ≠ p) ∧ DescsAt H' ts hs ((List.range i).flatMap (ofCol rows)) rows gap least)
        ⟨[], [], none, none, none, rfl, x4, hp4, fun t h => by simp at h, fun t h => by simp at h, rfl, rfl, fun i t h q h1 => by simp at h1⟩ ?_ ?_⟩
      · rintro i σ H5 hi ⟨ts, hs, c3, c4, c5, rfl, x5, hp5, ft, fh, ds⟩
        refine ⟨_, rfl, _, rfl, a, as, rows, i, by rw [Int.zero_add]; rfl, x5.tab, hP.ex x5, ll, fun r1 ts1 H6 x6 nr1 hr1 pr1 => ⟨r1, rfl, ⟨_, SqL.of hr1⟩, ?_⟩⟩
        have r1p : r1 ≠ p := fun z => by rw [z, hp5] at nr1; cases nr1
        have hl1 : (ts1.map V.ref).length = (ofCol rows i).length := by unfold ofCol; rw [List.length_map, List.length_map, pr1.len]
        refine for_list (xs := ts1.map V.ref) (fun j σ H' => ∃ (ts hs : List Addr) (c4 c5 : Option V), σ = [some (.ref a), some (.ref st), some (.ref p), some (.int (0 + (i : Nat))), c4, c5] ∧ Ex cs H H' ∧ H' r1 = some (.lst (ts1.map V.ref)) ∧ PairsAt H' ts1 (runsB rows i) ∧ H' p = some (.lst (ts.map V.ref)) ∧ (∀ t ∈ ts, H t = none ∧ t ≠ p) ∧ (∀ h ∈ hs, H h = none ∧ h ≠ p) ∧ DescsAt H' ts hs ((List.range i).flatMap (ofCol rows) ++ (ofCol rows i).take j) rows gap least)
          ⟨ts, hs, c4, c5, rfl, x5.trans x6, hr1, pr1, x6.lst hp5, ft, fh, by rw [List.take_zero, List.append_nil]; exact ds.keep fun b o e _ n => x6.ext b o e n⟩ (fun j σ H' _ ⟨_, _, _, _, _, _, q, _⟩ => SqL.of q) ?_ ?_
        · rintro j v σ H7 hv ⟨ts, hs, c4, c5, rfl, x7, hr7, pr7, hp7, ft, fh, ds⟩
          obtain ⟨t1, ht1, rfl⟩ := get_map hv
          obtain ⟨q, hq⟩ := getP (xs := runsB rows i) (i := j) (by rw [← pr7.len]; exact (List.getElem?_eq_some_iff.mp ht1).1)
          obtain ⟨f1, f2, f3⟩ := run_facts hq
          have hsz : (ts.map V.ref).length < sizeLine := by
            rw [List.length_map, ds.len, List.length_append, List.length_take]
            have q1 := flat_len (F := ofCol rows) (b := 30) (fun c => Nat.le_trans (col_len rows c) ll) i
            have q2 := col_len rows i
            have q3 : min j (ofCol rows i).length ≤ (ofCol rows i).length := Nat.min_le_right _ _
            omega
          refine ⟨t1, _, rfl, .inl (.inl (pr7.at_ j t1 q ht1 hq)), rfl, _, _, rfl, _, _, rfl, rfl, ?_⟩
          refine ⟨_, rfl, .inl ⟨rfl, _, SqL.of hp7⟩, _, rfl, _, rfl, _, rfl, _, rfl, _, rfl, a, st, as, rows, gap, least, i, q.1, q.2, by rw [Int.zero_add]; rfl, x7.tab, hP.ex x7, hO, hS.ex x7, f1, f2, f3, fun t h H8 x8 nt nh hd => ⟨p, _, .ref t, rfl, rfl, x8.lst hp7, hsz, ?_⟩⟩
          have tp : t ≠ p := fun z => by rw [z, hp7] at nt; cases nt
          have hp' : h ≠ p := fun z => by rw [z, hp7] at nh; cases nh
          have x9 := ex_new (o := .lst (ts.map V.ref ++ [.ref t])) hT (x7.trans x8) np0
          refine ⟨ts ++ [t], hs ++ [h], _, _, rfl, x9, by rw [upd_ne r1p]; exact x8.lst hr7, pr7.keep fun b xs e => ?_, by rw [upd_same, List.map_append]; rfl, fun u hu => ?_, fun u hu => ?_, ?_⟩
          · rw [upd_ne (fun z => by rw [z, hp7] at e; cases e)]; exact x8.tup e
          · rcases List.mem_append.mp hu with z | z
            · exact ft u z
            · rw [List.mem_singleton.mp z]; exact ⟨x7.old _ nt, tp⟩
          · rcases List.mem_append.mp hu with z | z
            · exact fh u z
            · rw [List.mem_singleton.mp z]; exact ⟨x7.old _ nh, hp'⟩
          · have ej : (ofCol rows i)[j]? = some (i, q.1, q.2) := by unfold ofCol; rw [List.getElem?_map, hq]; rfl
            rw [List.take_add_one, ej, ← List.append_assoc]
            refine (ds.keep fun b o e m n => ?_).snoc (q := (i, q.1, q.2)) ⟨by rw [upd_ne tp]; exact hd.1, by rw [upd_ne hp']; exact hd.2⟩
            have nb : b ≠ p := by
              rcases m with m | m
              · exact (ft b m).2
              · exact (fh b m).2
            rw [upd_ne nb]; exact x8.ext b o e n
        · rintro σ H7 ⟨ts, hs, c4, c5, rfl, x7, hr7, pr7, hp7, ft, fh, ds⟩
          refine ⟨ts, hs, _, _, _, rfl, x7, hp7, ft, fh, ?_⟩
          rw [hl1, List.take_of_length_le (Nat.le_refl _)] at ds
          rw [List.range_succ, List.flatMap_append, List.flatMap_cons, List.flatMap_nil, List.append_nil]
          exact ds
      · rintro σ H5 ⟨ts, hs, c3, c4, c5, rfl, x5, hp5, ft, fh, ds⟩
        refine ⟨_, rfl, k p ts hs H5 x5 np0 (fun t h => (ft t h).1) (fun t h => (fh t h).1) hp5 ?_⟩
        rw [cols_eq hmax hm6] at ds
        exact ds
end
end TG
namespace TG
open PySem L2 Gx
theorem cl_app (x y : Str) : cl (x ++ y) = cl x ++ cl y := TL.tl_append x y
theorem joinL_nil : ∀ l : List (List Nat), TL.joinL [] l = l.flatten
  | [] => rfl
  | [p] => by simp [TL.joinL]
  | p :: q :: r => by
    show p ++ ([] ++ TL.joinL [] (q :: r)) = _
    rw [joinL_nil (q :: r)]
    rfl
theorem cl_join (ys : List Str) : cl (Txt.join "" ys) = (ys.map cl).flatten := by
  have e : ("" : Str) = SX.S [] := by decide +kernel
  have e2 : ys = (ys.map cl).map SX.S := by
    rw [List.map_map]
    conv => lhs; rw [← List.map_id ys]
    exact List.map_congr_left fun y _ => (SX.S_tl y).symm
  rw [e]
  conv => lhs; rw [e2]
  rw [SX.join_S, joinL_nil]
theorem num_ok {n : Int} (h0 : 0 ≤ n) (h1 : n < 10 ^ 9) : (Str.ofString (toString n)).length ≤ 9 ∧ ∀ c ∈ cl (Str.ofString (toString n)), 48 ≤ c ∧ c ≤ 57 := by
  refine ⟨PyProof.Rows.toString_length_le h0 (by decide) h1, fun c hc => ?_⟩
  obtain ⟨m, rfl⟩ := Int.eq_ofNat_of_zero_le h0
  have hc' : c ∈ (Str.ofString (toString ((m : Nat) : Int))).cps.toList := hc
  rw [PySem.W.KIN.signs_num] at hc'
  obtain ⟨ch, hch, e⟩ := List.mem_map.mp hc'
  have r := PyProof.Rows.digit_range (Nat.isDigit_of_mem_toDigits (by decide) (by decide) hch)
  rw [← e]
  exact r
theorem sg_of {z : Str} (h : (z.cps.toList.all fun c => decide (SgOk c)) = true) : ∀ c ∈ cl z, SgOk c := fun c hc => of_decide_eq_true (List.all_eq_true.mp h c hc)
end TG
namespace TG
open PySem L2 Gx
abbrev everyS : Str := " !\"#$&'()*+,-./0123456789:;<=>?@ABCDEFGHIJKLMNOPQRSTUVWXYZ[\\]^_`abcdefghijklmnopqrstuvwxyz{|}~"
theorem every_ok : ∀ c ∈ cl everyS, SgOk c := sg_of (by decide +kernel)
theorem abc_len : (cl "abcdefghij").length = 10 := by decide +kernel
theorem emp_len : (Str.ofString "").length = 0 := by decide +kernel
theorem every_len : (cl everyS).length = 94 := by decide +kernel
theorem cells_ok {l : List Str} (h : (l.all fun z => decide (z.length ≤ 10) && z.cps.toList.all fun c => decide (SgOk c)) = true) : ∀ z ∈ l, CellOk z := fun z hz => by
  have q := Bool.and_eq_true_iff.mp (List.all_eq_true.mp h z hz)
  exact ⟨of_decide_eq_true q.1, sg_of q.2⟩
/-- one of a written list -/
theorem pick {α : Type} {xs : List α} {i : Int} (h0 : 0 ≤ i) (h1 : i < xs.length) : ∃ x, x ∈ xs ∧ atI xs i = some x := by
  obtain ⟨n, rfl⟩ := Int.eq_ofNat_of_zero_le h0
  have hn : n < xs.length := by have : ((n : Nat) : Int) < xs.length := h1; omega
  exact ⟨xs[n], List.getElem_mem hn, atI_nat (List.getElem?_eq_getElem hn)⟩
theorem iteB {c A B : Prop} [Decidable c] (h1 : A) (h2 : B) : if c then A else B := ite2 (fun _ => h1) fun _ => h2
theorem len_cl (z : Str) : z.length = (cl z).length := by simp [Str.length, cl]
theorem box_new {H : Hp} {b l p : Addr} {o : HO} (x : BoxAt H b l) (n : H p = none) : BoxAt (upd H p o) b l := by
  obtain ⟨ns, st, h1, h2, h3⟩ := x
  exact ⟨ns, st, by rw [upd_ne (ne_of_none h1 n)]; exact h1, by rw [upd_ne (ne_of_none h2 n)]; exact h2, h3⟩
theorem new_ne {H : Hp} {b l p : Addr} (x : BoxAt H b l) (n : H p = none) : p ≠ b ∧ p ≠ l := by
  obtain ⟨ns, st, h1, h2, h3⟩ := x
  exact ⟨(ne_of_none h1 n).symm, (ne_of_none h2 n).symm⟩
theorem kb_new {H : Hp} {b l p : Addr} {o : HO} (n : H p = none) : KB b l H (upd H p o) := fun c u e _ _ => by rw [upd_ne (ne_of_none e n)]; exact e
theorem atI_map {α β : Type} {f : α → β} {xs : List α} {i : Int} {x : α} (h : atI xs i = some x) : atI (xs.map f) i = some (f x) := by
  unfold atI at h ⊢
  rw [List.length_map]
  cases e : ixN xs.length i with
  | none => rw [e] at h; cases h
  | some j =>
    rw [e] at h
    have h' : xs[j]? = some x := h
    show (xs.map f)[j]? = some (f x)
    rw [List.getElem?_map, h']
    rfl
theorem OnesAt.start {b l : Addr} {H H1 : Hp} {D : Addr} (hB : BoxAt H1 b l) (x : KB b l H H1) (n : H1 D = none) (nb : BoxAt H b l) : OnesAt b l H D 0 (upd H1 D (.lst [])) := by
  obtain ⟨d1, d2⟩ := new_ne hB n
  have nD : H D = none := by
    cases e : H D with
    | none => rfl
    | some o => rw [x D o e d1 d2] at n; cases n
  exact ⟨box_new hB n, kb_upd x nD, nD, d1, d2, [], rfl, fun c h => by simp at h, upd_same⟩
theorem OnesAt.done {b l : Addr} {H H1 : Hp} {D : Addr} {i : Nat} (o : OnesAt b l H D i H1) : ∃ ys : List Str, H1 D = some (.lst (ys.map V.str)) ∧ ys.length = i ∧ (ys.map fun y => y.length).sum = i ∧ (i ≤ 10 → CellOk (Txt.join "" ys)) := by
  obtain ⟨cs, h1, h2, h3⟩ := o.ones
  refine ⟨_, h3, by rw [List.length_map, h1], ?_, fun hi => ?_⟩
  · rw [← h1]
    clear h1 h2 h3
    induction cs with
    | nil => rfl
    | cons c cs ih =>
      rw [List.map_cons, List.map_cons, List.sum_cons, ih, List.length_cons]
      show 1 + cs.length = cs.length + 1
      omega
  · have e : cl (Txt.join "" (cs.map fun c => (⟨#[c]⟩ : Str))) = cs := by
      rw [cl_join, List.map_map]
      clear h1 h2 h3
      induction cs with
      | nil => rfl
      | cons c cs ih =>
        rw [List.map_cons, List.flatten_cons, ih]
        rfl
    exact ⟨by rw [len_cl, e, h1]; exact hi, fun c hc => h2 c (by have hc : c ∈ cl _ := hc; rw [e] at hc; exact hc)⟩
abbrev oddL : List Str := ["-", "--1", "1-", "0x", " 1", "1 ", "-0", "007", " ", "   ", "1234567x", "12345678-", "-0000000 1"]
theorem odd_ok : ∀ z ∈ oddL, CellOk z := cells_ok (by decide +kernel)
section
variable {P : Program} {w : World} {K : PySem.W.Frag} {mg : Str → Option Value} {base : Heap} {cs : List (Addr × Addr)}
def spSign : Sp := fun vs H Q _ => ∃ (b l : Addr), vs = [.ref b] ∧ BoxAt H b l ∧ ∀ (c : Nat) (H' : Hp), SgOk c → BoxAt H' b l → KB b l H H' → Q (.str ⟨#[c]⟩) H'
theorem sc_sign : FnScope ["_law_box", "_law_every"] ["_law_box"] (defScope s_sign) := ⟨rfl, rfl, rfl, by decide +kernel, rfl, by decide +kernel, by decide +kernel⟩
theorem ok_sign {f g : Addr} {fd fdg : FuncData} (F : Fun K "_law_sign" "_law_sign" s_sign f fd)
    (G : FnOk P w K mg base CX0 1 g fdg ["_law_box", "_law_many"] spTake) (kp : PySem.W.keepIn K (.ref g) = true) (bd : Binds K fdg ["_law_box", "_law_many"] []) (mgg : mg "_law_take" = some (.ref g)) : FnOk P w K mg base CX0 2 f fd ["_law_box"] spSign := by
  refine F.ok sc_sign (fun vs H Q E h => ?_) (fun cdv A outer s H vs Q E hr h => ?_)
  · obtain ⟨b, l, rfl, _⟩ := h
    rfl
  · obtain ⟨b, l, rfl, hB, k⟩ := h
    have nd := sc_sign.nd
    refine ⟨_, pss_cons (ps_set (i := 1) nd rfl (.inl rfl) pe_str) (pss_one (ps_ret (pe_ix ix_str (pv 1) (pe_call G hr (by rfl) mgg kp bd .nil pass0 (pa_cons (pv 0) (pa_cons pe_int pa_nil))) (fun _ _ => rfl)))), ?_⟩
    refine ⟨_, rfl, _, rfl, b, l, 94, rfl, hB, by decide, by decide, fun r H1 r0 r1 hB1 x1 => ?_⟩
    obtain ⟨c, hc, e⟩ := pick (xs := cl everyS) r0 (by rw [every_len]; exact r1)
    exact ⟨everyS, r, c, rfl, rfl, line10 (by decide +kernel), e, k c H1 (every_ok c hc) hB1 x1⟩
def spCell : Sp := fun vs H Q _ => ∃ (b l : Addr) (sort : Int), vs = [.ref b, .int sort] ∧ BoxAt H b l ∧ ∀ (z : Str) (H' : Hp), CellOk z → BoxAt H' b l → KB b l H H' → Q (.str z) H'
theorem sc_cell : FnScope ["_law_box", "_law_sort", "_law_way", "_law_odd", "_law_many", "_law_k"] ["_law_box", "_law_sort"] (defScope s_cell) := ⟨rfl, rfl, rfl, by decide +kernel, rfl, by decide +kernel, by decide +kernel⟩
abbrev nmCell : List Str := ["_law_box", "_law_sort", "_law_way", "_law_odd", "_law_many", "_law_k"]
theorem ok_cell {f g g2 : Addr} {fd fdg fd2 : FuncData} (T : Txt mg) (F : Fun K "_law_cell" "_law_cell" s_cell f fd)
    (G : FnOk P w K mg base CX0 1 g fdg ["_law_box", "_law_many"] spTake) (kp : PySem.W.keepIn K (.ref g) = true) (bd : Binds K fdg ["_law_box", "_law_many"] []) (mgg : mg "_law_take" = some (.ref g))
    (G2 : FnOk P w K mg base CX0 2 g2 fd2 ["_law_box"] spSign) (kp2 : PySem.W.keepIn K (.ref g2) = true) (bd2 : Binds K fd2 ["_law_box"] []) (mg2 : mg "_law_sign" = some (.ref g2)) : FnOk P w K mg base CX0 3 f fd ["_law_box", "_law_sort"] spCell := by
  refine F.ok sc_cell (fun vs H Q E h => ?_) (fun cdv A outer s H vs Q E hr h => ?_)
  · obtain ⟨b, l, sort, rfl, _⟩ := h
    rfl
  · obtain ⟨b, l, sort, rfl, hB, k⟩ := h
    have nd := sc_cell.nd
    have hr1 : Room 1 _ := hr.mono (by decide)
    refine ⟨_, pss_cons (ps_set (i := 2) nd rfl (.inl rfl) (pe_call G hr1 (by rfl) mgg kp bd .nil pass0 (pa_cons (pv 0) (pa_cons pe_int pa_nil))))
      (pss_cons (ps_if (pt_cmpR op_eq (pv 2) pe_int (nomark _)) (pss_one (ps_ret pe_str)) pss_nil)
      (pss_cons (ps_if (PW.pt (pw_or (pt_cmpR op_eq (pv 2) pe_int (nomark _)) (pw_or1 (PW.pt (pw_and (pt_cmpR op_eq (pv 1) pe_int (nomark _)) (pw_and1 (pt_cmpR op_lt (pv 2) pe_int (nomark _)))))))) (pss_one (ps_ret (pe_op op_add_str (pe_ix ix_list (pe_lst (pa_cons pe_str (pa_cons pe_str pa_nil))) (pe_op op_fdivN (pe_call G hr1 (by rfl) mgg kp bd .nil pass0 (pa_cons (pv 0) (pa_cons pe_int pa_nil))) pe_int) (fun _ _ => rfl)) (pe_callTy call_str_int (by rfl) T.str (by decide +kernel) (pa_cons (pe_call G hr1 (by rfl) mgg kp bd .nil pass0 (pa_cons (pv 0) (pa_cons (pe_ix ix_list (pe_lst (pa_cons pe_int (pa_cons pe_int (pa_cons (pe_op op_pow pe_int pe_int) pa_nil)))) (pe_call G hr1 (by rfl) mgg kp bd .nil pass0 (pa_cons (pv 0) (pa_cons pe_int pa_nil))) (fun _ _ => rfl)) pa_nil))) pa_nil))))) pss_nil)
      (pss_cons (ps_if (pt_cmpR op_eq (pv 2) pe_int (nomark _)) (pss_cons (ps_set (i := 3) nd rfl (.inl rfl) (pe_lst (pa_cons pe_str (pa_cons pe_str (pa_cons pe_str (pa_cons pe_str (pa_cons pe_str (pa_cons pe_str (pa_cons pe_str (pa_cons pe_str (pa_cons pe_str (pa_cons pe_str (pa_cons pe_str (pa_cons pe_str (pa_cons pe_str pa_nil))))))))))))))) (pss_one (ps_ret (pe_ix ix_list (pv 3) (pe_call G hr1 (by rfl) mgg kp bd .nil pass0 (pa_cons (pv 0) (pa_cons pe_int pa_nil))) (fun _ _ => rfl))))) pss_nil)
      (pss_cons (ps_set (i := 4) nd rfl (.inl rfl) (pe_op op_add pe_int (pe_call G hr1 (by rfl) mgg kp bd .nil pass0 (pa_cons (pv 0) (pa_cons (pe_ix ix_list (pe_lst (pa_cons pe_int (pa_cons pe_int pa_nil))) (pe_call G hr1 (by rfl) mgg kp bd .nil pass0 (pa_cons (pv 0) (pa_cons pe_int pa_nil))) (fun _ _ => rfl)) pa_nil)))))
      (pss_cons (ps_if (pt_cmpR op_lt (pv 2) pe_int (nomark _)) (pss_one (ps_ret (pe_join pe_str (pe_lc (own := [("_law_k", 5)]) (g := gName 5) (tt := tYes) rfl nd (pi_range1 (by rfl) T.range (pa_cons (pv 4) pa_nil)) (blkOk_by (own := [("_law_k", 5)]) (N := nmCell) (sc := defScope s_cell) (by decide +kernel)) (fun _ _ _ _ _ => pg_name (i := 5) nd rfl (Or.inl rfl)) (fun _ _ _ _ _ => pts_nil) (fun s1 H1 C1 cl1 fp1 => pe_ix ix_str pe_str (pe_call G hr1 (by rfl) mgg kp bd .nil pass0 (pa_cons (pv 0) (pa_cons pe_int pa_nil))) (fun _ _ => rfl)))))) pss_nil)
      (pss_one (ps_ret (pe_join pe_str (pe_lc (own := [("_law_k", 5)]) (g := gName 5) (tt := tYes) rfl nd (pi_range1 (by rfl) T.range (pa_cons (pv 4) pa_nil)) (blkOk_by (own := [("_law_k", 5)]) (N := nmCell) (sc := defScope s_cell) (by decide +kernel)) (fun _ _ _ _ _ => pg_name (i := 5) nd rfl (Or.inl rfl)) (fun _ _ _ _ _ => pts_nil) (fun s1 H1 C1 cl1 fp1 => pe_call G2 hr (by rfl) mg2 kp2 bd2 .nil pass0 (pa_cons (pv 0) pa_nil))))))))))), ?_⟩
    have szl : (1000 : Nat) < sizeLine := by decide
    refine ⟨_, rfl, b, l, 9, rfl, hB, by decide, by decide, fun way H1 w0 w1 hB1 x1 => ⟨_, rfl, rfl, _, rfl, iteB ?_ ?_⟩⟩
    · exact k _ H1 ⟨by decide +kernel, sg_of (by decide +kernel)⟩ hB1 x1
    refine ⟨_, rfl, rfl, _, rfl, iteB (iteT ?body) ⟨_, rfl, rfl, _, rfl, iteB ⟨_, rfl, _, _, rfl, rfl, _, rfl, iteB ?body ?rest⟩ (iteF ?rest)⟩⟩
    case body =>
      refine ⟨line10 (by decide), fun p np => ⟨_, rfl, b, l, 3, rfl, box_new hB1 np, by decide, by decide, fun r H2 r0 r1 hB2 x2 => ⟨r, 2, rfl, rfl, ⟨by decide, by decide⟩, ?_⟩⟩⟩
      have y2 := (x1.trans (kb_new np)).trans x2
      have e2 : r.fdiv 2 = r / 2 := Int.fdiv_eq_ediv_of_nonneg r (by decide)
      obtain ⟨v, hv, ev⟩ := pick (xs := [(⟨#[]⟩ : Str), ⟨#[45]⟩]) (i := r.fdiv 2) (by omega) (by show r.fdiv 2 < 2; omega)
      obtain ⟨nb, nl⟩ := new_ne hB1 np
      have l1 : ([("" : Str), "-"] : List Str) = [⟨#[]⟩, ⟨#[45]⟩] := by decide +kernel
      have hp2 : H2 p = some (.lst (sV [("" : Str), "-"])) := x2 p _ upd_same nb nl
      refine ⟨p, _, _, .str v, rfl, rfl, SqL.of hp2, by rw [l1]; exact atI_map ev, ?_⟩
      refine ⟨_, rfl, 10, 9, rfl, rfl, ⟨by decide, by decide, by decide⟩, line10 (by decide), fun p2 np2 => ⟨_, rfl, b, l, 3, rfl, box_new hB2 np2, by decide, by decide, fun r2 H4 s0 s1 hB4 x4 => ?_⟩⟩
      obtain ⟨nb2, nl2⟩ := new_ne hB2 np2
      have y4 := (y2.trans (kb_new np2)).trans x4
      have hp4 := x4 p2 _ upd_same nb2 nl2
      obtain ⟨m, hm, em⟩ := pick (xs := [(10 : Int), 1000, 1000000000]) (i := r2) s0 s1
      have hm2 : 0 < m ∧ m ≤ 1000000000 := by
        simp only [List.mem_cons, List.not_mem_nil, or_false] at hm
        omega
      refine ⟨p2, _, _, .int m, rfl, rfl, SqL.of hp4, atI_map (f := V.int) em, b, l, m, rfl, hB4, hm2.1, by omega, fun n H5 n0 n1 hB5 x5 => ⟨n, rfl, ?_, v, _, rfl, rfl, ?_, ?_⟩⟩
      · by_cases hz : n.natAbs = 0
        · rw [hz]; decide
        · refine Nat.lt_of_lt_of_le ((Nat.log2_lt hz).mpr (show n.natAbs < 2 ^ 30 by omega)) (by decide)
      · have h9 := (num_ok n0 (by omega)).1
        have hv1 : v.length ≤ 1 := by
          simp only [List.mem_cons, List.not_mem_nil, or_false] at hv
          rcases hv with rfl | rfl <;> decide
        omega
      · obtain ⟨h9, hd9⟩ := num_ok n0 (by omega)
        have hv1 : v.length ≤ 1 ∧ ∀ c ∈ cl v, SgOk c := by
          simp only [List.mem_cons, List.not_mem_nil, or_false] at hv
          rcases hv with rfl | rfl <;> exact ⟨by decide, sg_of (by decide)⟩
        refine k _ H5 ⟨?_, fun c hc => ?_⟩ hB5 (y4.trans x5)
        · rw [len_cl, cl_app, List.length_append, ← len_cl, ← len_cl]; omega
        · have hc : c ∈ cl (v ++ _) := hc
          rw [cl_app] at hc
          rcases List.mem_append.mp hc with h | h
          · exact hv1.2 c h
          · have := hd9 c h
            unfold SgOk
            omega
    case rest =>
    refine ⟨_, rfl, rfl, _, rfl, iteB ?_ ?_⟩
    · refine ⟨line10 (by decide), fun p np => ⟨_, rfl, _, rfl, b, l, 13, rfl, box_new hB1 np, by decide, by decide, fun r H2 r0 r1 hB2 x2 => ?_⟩⟩
      obtain ⟨nb, nl⟩ := new_ne hB1 np
      have hp2 : H2 p = some (.lst (sV oddL)) := x2 p _ upd_same nb nl
      obtain ⟨v, hv, ev⟩ := pick (xs := oddL) (i := r) r0 r1
      exact ⟨p, _, _, .str v, rfl, rfl, SqL.of hp2, atI_map ev, k v H2 (odd_ok v hv) hB2 ((x1.trans (kb_new np)).trans x2)⟩
    refine ⟨_, rfl, line10 (by decide), fun p np => ⟨_, rfl, b, l, 2, rfl, box_new hB1 np, by decide, by decide, fun r H2 r0 r1 hB2 x2 => ?_⟩⟩
    obtain ⟨nb, nl⟩ := new_ne hB1 np
    have hp2 := x2 p _ upd_same nb nl
    have y2 := (x1.trans (kb_new np)).trans x2
    obtain ⟨m, hm, em⟩ := pick (xs := [(3 : Int), 10]) (i := r) r0 r1
    have hm2 : 0 < m ∧ m ≤ 10 := by
      simp only [List.mem_cons, List.not_mem_nil, or_false] at hm
      omega
    refine ⟨p, _, _, .int m, rfl, rfl, SqL.of hp2, atI_map (f := V.int) em, b, l, m, rfl, hB2, hm2.1, by omega, fun n H3 n0 n1 hB3 x3 => ⟨1, n, rfl, rfl, ?_⟩⟩
    have y3 := y2.trans x3
    refine ⟨_, rfl, _, _, rfl, rfl, _, rfl, iteB ?_ ?_⟩
    · refine ⟨⟨_, rfl⟩, _, rfl, 1 + n, rfl, by omega, by omega, fun D nD => lc_range (n := (1 + n).toNat) (fun i H' => OnesAt b l H D i H') ?_ ?_ ?_⟩
      · exact OnesAt.start hB3 y3 nD hB
      · rintro i H4 hi o
        refine ⟨rfl, _, rfl, b, l, 10, rfl, o.box, by decide, by decide, fun r4 H5 a0 a1 hB5 x5 => ?_⟩
        obtain ⟨c, hc, ec⟩ := pick (xs := cl "abcdefghij") (i := r4) a0 (by rw [abc_len]; exact a1)
        obtain ⟨acc, hacc, hl, o2⟩ := o.more (c := c) (sg_of (z := "abcdefghij") (by decide +kernel) c hc) hB5 x5
        exact ⟨_, r4, c, rfl, rfl, line10 (by decide +kernel), ec, acc, hacc, by omega, o2⟩
      · rintro H4 o
        obtain ⟨ys, hD, h1, h2, h3⟩ := o.done
        exact ⟨_, D, ys, rfl, rfl, .inl (SqL.of hD), by rw [h2, emp_len]; omega, k _ H4 (h3 (by omega)) o.box o.keep⟩
    · refine ⟨⟨_, rfl⟩, _, rfl, 1 + n, rfl, by omega, by omega, fun D nD => lc_range (n := (1 + n).toNat) (fun i H' => OnesAt b l H D i H') ?_ ?_ ?_⟩
      · exact OnesAt.start hB3 y3 nD hB
      · rintro i H4 hi o
        refine ⟨rfl, _, rfl, b, l, rfl, o.box, fun c H5 hc hB5 x5 => ?_⟩
        obtain ⟨acc, hacc, hl, o2⟩ := o.more (c := c) hc hB5 x5
        exact ⟨acc, hacc, by omega, o2⟩
      · rintro H4 o
        obtain ⟨ys, hD, h1, h2, h3⟩ := o.done
        exact ⟨_, D, ys, rfl, rfl, .inl (SqL.of hD), by rw [h2, emp_len]; omega, k _ H4 (h3 (by omega)) o.box o.keep⟩
end
end TG
namespace TG
open PySem L2 Gx
theorem new_old {b l p : Addr} {H H1 : Hp} (x : KB b l H H1) (hB : BoxAt H1 b l) (n : H1 p = none) : H p = none := by
  obtain ⟨d1, d2⟩ := new_ne hB n
  cases e : H p with
  | none => rfl
  | some o => rw [x p o e d1 d2] at n; cases n
theorem StrsAt.start {b l : Addr} {H H1 : Hp} {D : Addr} (hB : BoxAt H1 b l) (x : KB b l H H1) (n : H1 D = none) : StrsAt b l H D 0 (upd H1 D (.lst [])) := by
  obtain ⟨d1, d2⟩ := new_ne hB n
  have nD := new_old x hB n
  exact ⟨box_new hB n, kb_upd x nD, nD, d1, d2, [], rfl, fun c h => by simp at h, upd_same⟩
theorem IntsAt.start {b l : Addr} {H H1 : Hp} {D : Addr} (hB : BoxAt H1 b l) (x : KB b l H H1) (n : H1 D = none) : IntsAt b l H D 0 (upd H1 D (.lst [])) := by
  obtain ⟨d1, d2⟩ := new_ne hB n
  have nD := new_old x hB n
  exact ⟨box_new hB n, kb_upd x nD, nD, d1, d2, [], rfl, upd_same⟩
theorem ixm1 {n : Nat} : ixN (n + 1) (-1) = some n := by
  unfold ixN
  rw [if_neg (by decide), if_pos (by omega)]
  congr 1
  omega
theorem atm1 {α : Type} {xs : List α} {n : Nat} {v : α} (hl : xs.length = n + 1) (h : xs[n]? = some v) : atI xs (-1) = some v := by
  unfold atI
  rw [hl, ixm1]
  exact h
theorem kb_tup {b l : Addr} {H H' : Hp} (x : KB b l H H') (hB : BoxAt H b l) : ∀ p xs, H p = some (.tup xs) → H' p = some (.tup xs) := fun p xs h => by
  obtain ⟨ns, st, h1, h2, _⟩ := hB
  exact x p _ h (ne_of h h1 fun z => by cases z) (ne_of h h2 fun z => by cases z)
section
variable {P : Program} {w : World} {K : PySem.W.Frag} {mg : Str → Option Value} {base : Heap} {cs : List (Addr × Addr)}
def spRowD : Sp := fun vs H Q _ => ∃ (b l sr : Addr) (ss : List Int) (m : Int), vs = [.ref b, .ref sr, .int m] ∧ BoxAt H b l ∧ H sr = some (.lst (ss.map V.int)) ∧ ss.length = 6 ∧ sr ≠ b ∧ sr ≠ l ∧ 1 ≤ m ∧ m ≤ 6 ∧
  ∀ (p : Addr) (r : List Str) (H' : Hp), BoxAt H' b l → KB b l H H' → H p = none → H' p = some (.tup (sV r)) → RowOk r → Q (.ref p) H'
abbrev nmRow : List Str := ["_law_box", "_law_sorts", "_law_many", "_law_k"]
theorem sc_lrow : FnScope nmRow ["_law_box", "_law_sorts", "_law_many"] (defScope s_row) := ⟨rfl, rfl, rfl, by decide +kernel, rfl, by decide +kernel, by decide +kernel⟩
theorem ok_lrow {f g : Addr} {fd fdg : FuncData} (T : Txt mg) (F : Fun K "_law_row" "_law_row" s_row f fd)
    (G : FnOk P w K mg base CX0 3 g fdg ["_law_box", "_law_sort"] spCell) (kp : PySem.W.keepIn K (.ref g) = true) (bd : Binds K fdg ["_law_box", "_law_sort"] []) (mgg : mg "_law_cell" = some (.ref g)) : FnOk P w K mg base CX0 4 f fd ["_law_box", "_law_sorts", "_law_many"] spRowD := by
  refine F.ok sc_lrow (fun vs H Q E h => ?_) (fun cdv A outer s H vs Q E hr h => ?_)
  · obtain ⟨b, l, sr, ss, m, rfl, _⟩ := h
    rfl
  · obtain ⟨b, l, sr, ss, m, rfl, hB, hs, h6, sb, sl, m1, m6, k⟩ := h
    have nd := sc_lrow.nd
    have szl : (1000 : Nat) < sizeLine := by decide
    refine ⟨_, pss_one (ps_ret (pe_callTy call_tuple_of (by rfl) T.tuple (by decide +kernel) (pa_cons (pe_lc (own := [("_law_k", 3)]) (g := gName 3) (tt := tYes) rfl nd (pi_range1 (by rfl) T.range (pa_cons (pv 2) pa_nil)) (blkOk_by (own := [("_law_k", 3)]) (N := nmRow) (sc := defScope s_row) (by decide +kernel))
          (fun _ _ _ _ _ => pg_name (i := 3) nd rfl (Or.inl rfl)) (fun _ _ _ _ _ => pts_nil) (fun s1 H1 C1 cl1 fp1 => pe_call G hr (by rfl) mgg kp bd .nil pass0 (pa_cons (pv 0) (pa_cons (pe_ix (r := rIxL K) ix_list (pv 1) (pv 3) (fun _ _ => rfl)) pa_nil)))) pa_nil))), ?_⟩
    refine ⟨_, rfl, m, rfl, by omega, by omega, fun D nD => lc_range (n := m.toNat) (fun i H' => StrsAt b l H D i H') (StrsAt.start hB KB.refl nD) ?_ ?_⟩
    · rintro i H1 hi o
      obtain ⟨sv, hsv⟩ := getP (xs := ss) (i := i) (by omega)
      have hs1 := o.keep sr _ hs sb sl
      refine ⟨rfl, _, rfl, _, rfl, _, rfl, sr, _, _, .int sv, rfl, rfl, SqL.of hs1, by rw [Int.zero_add]; exact atI_nat (by rw [List.getElem?_map, hsv]; rfl), b, l, sv, rfl, o.box, fun z H2 hz hB2 x2 => ?_⟩
      obtain ⟨acc, hacc, hl, o2⟩ := o.more hz hB2 x2
      exact ⟨acc, hacc, by omega, o2⟩
    · rintro H1 o
      obtain ⟨zs, h1, h2, h3⟩ := o.zsat
      refine ⟨D, _, rfl, .inl ⟨SqL.of h3, fun p np => k p zs _ (box_new o.box np) (o.keep.trans (kb_new np)) (new_old o.keep o.box np) upd_same ⟨by omega, by omega, h2⟩⟩⟩
def spPageD : Sp := fun vs H Q _ => ∃ (b l : Addr) (m : Int), vs = [.ref b, .int m] ∧ BoxAt H b l ∧ 1 ≤ m ∧ m ≤ 30 ∧
  ∀ (p : Addr) (as : List Addr) (rows : List (List Str)) (H' : Hp), BoxAt H' b l → KB b l H H' → H p = none → p ≠ b → p ≠ l → H' p = some (.lst (as.map V.ref)) → as.length = rows.length → (∀ (i : Nat) (q : Addr) (r : List Str), as[i]? = some q → rows[i]? = some r → H' q = some (.tup (sV r))) → PgOk rows → Q (.ref p) H'
abbrev nmPage : List Str := ["_law_box", "_law_most", "_law_sorts", "_law_many", "_law_rows", "_law_turn", "_law_way", "_law_k"]
theorem sc_lpage : FnScope nmPage ["_law_box", "_law_most"] (defScope s_page) := ⟨rfl, rfl, rfl, by decide +kernel, rfl, by decide +kernel, by decide +kernel⟩
theorem ok_lpage {f g g2 : Addr} {fd fdg fd2 : FuncData} (T : Txt mg) (F : Fun K "_law_page" "_law_page" s_page f fd)
    (G : FnOk P w K mg base CX0 1 g fdg ["_law_box", "_law_many"] spTake) (kp : PySem.W.keepIn K (.ref g) = true) (bd : Binds K fdg ["_law_box", "_law_many"] []) (mgg : mg "_law_take" = some (.ref g))
    (G2 : FnOk P w K mg base CX0 4 g2 fd2 ["_law_box", "_law_sorts", "_law_many"] spRowD) (kp2 : PySem.W.keepIn K (.ref g2) = true) (bd2 : Binds K fd2 ["_law_box", "_law_sorts", "_law_many"] []) (mg2 : mg "_law_row" = some (.ref g2)) : FnOk P w K mg base CX0 5 f fd ["_law_box", "_law_most"] spPageD := by
  refine F.ok sc_lpage (fun vs H Q E h => ?_) (fun cdv A outer s H vs Q E hr h => ?_)
  · obtain ⟨b, l, m, rfl, _⟩ := h
    rfl
  · obtain ⟨b, l, m, rfl, hB, m1, m30, k⟩ := h
    have nd := sc_lpage.nd
    have szl : (1000 : Nat) < sizeLine := by decide
    have hr1 : Room 1 _ := hr.mono (by decide)
    refine ⟨_, pss_cons (ps_setLc (i := 2) (own := [("_law_k", 7)]) (g := gName 7) rfl nd rfl rfl (sw_true rfl rfl rfl (by decide +kernel)) (pi_range1 (by rfl) T.range (pa_cons pe_int pa_nil)) (blkOk_by (own := [("_law_k", 7)]) (N := nmPage) (sc := defScope s_page) (by decide +kernel))
          (fun _ _ _ _ _ => pg_name (i := 7) nd rfl (Or.inl rfl)) (fun _ _ _ _ _ => pts_nil) (fun s1 H1 C1 cl1 fp1 => pe_call G hr1 (by rfl) mgg kp bd .nil pass0 (pa_cons (pv 0) (pa_cons pe_int pa_nil))))
      (pss_cons (ps_par (i := 3) (j := 4) rfl nd rfl rfl (by decide) rfl rfl (pa_cons (pe_op op_add pe_int (pe_call G hr1 (by rfl) mgg kp bd .nil pass0 (pa_cons (pv 0) (pa_cons pe_int pa_nil)))) (pa_cons (pe_lst pa_nil) pa_nil)) (by rfl))
      (pss_cons (ps_for PassesOwn.never rfl (pi_range1 (by rfl) T.range (pa_cons (pe_op op_add pe_int (pe_call G hr1 (by rfl) mgg kp bd .nil pass0 (pa_cons (pv 0) (pa_cons (pv 1) pa_nil)))) pa_nil)) (pg_name (i := 5) nd rfl (.inl rfl))
        (pss_cons (ps_set (i := 6) nd rfl (.inl rfl) (pe_call G hr1 (by rfl) mgg kp bd .nil pass0 (pa_cons (pv 0) (pa_cons pe_int pa_nil))))
        (pss_cons (ps_set (i := 3) nd rfl (.inl rfl) (pe_ix ix_list (pe_lst (pa_cons (pe_op op_add pe_int (pe_call G hr1 (by rfl) mgg kp bd .nil pass0 (pa_cons (pv 0) (pa_cons pe_int pa_nil)))) (pa_cons (pe_callB (call_max2 rfl) (by rfl) T.max (by decide +kernel) (pa_cons pe_int (pa_cons (pe_op op_sub (pv 3) pe_int) pa_nil)))
            (pa_cons (pe_callB (call_min2 rfl) (by rfl) T.min (by decide +kernel) (pa_cons pe_int (pa_cons (pe_op op_add (pv 3) pe_int) pa_nil))) (pa_cons (pv 3) pa_nil))))) (pe_callB (call_min2 rfl) (by rfl) T.min (by decide +kernel) (pa_cons (pv 6) (pa_cons pe_int pa_nil))) (fun _ _ => rfl)))
        (pss_cons (ps_expr (pe_bm PySem.F.plainAttrs_list PySem.F.slot_list_append PySem.F.type_list_append mt_append (pv 4) (pa_cons (pe_call G2 hr (by rfl) mg2 kp2 bd2 .nil pass0 (pa_cons (pv 0) (pa_cons (pv 2) (pa_cons (pv 3) pa_nil)))) pa_nil)))
        (pss_one (ps_if (pt_cmpR op_eq (pv 6) pe_int (nomark _))
          (pss_cons (ps_asg (pe_ix ix_list (pv 4) (pe_call G hr1 (by rfl) mgg kp bd .nil pass0 (pa_cons (pv 0) (pa_cons (pe_callB call_len_seq (by rfl) T.len PySem.boot_len (pa_cons (pv 4) pa_nil)) pa_nil))) (fun _ _ => rfl)) (pg_sub (pv 4) (pe_un un_neg pe_int) set_list))
          (pss_one (ps_set (i := 3) nd rfl (.inl rfl) (pe_callB call_len_seq (by rfl) T.len PySem.boot_len (pa_cons (pe_ix ix_list (pv 4) (pe_un un_neg pe_int) (fun _ _ => rfl)) pa_nil))))) pss_nil))))))
      (pss_one (ps_ret (pv 4))))), ?_⟩
    refine ⟨6, rfl, by decide, by decide, fun sr nsr => lc_range (n := 6) (fun i H' => IntsAt b l H sr i H') (IntsAt.start hB KB.refl nsr) ?_ ?_⟩
    · rintro i H1 hi o
      refine ⟨rfl, _, rfl, b, l, 2, rfl, o.box, by decide, by decide, fun r H2 r0 r1 hB2 x2 => ?_⟩
      obtain ⟨acc, hacc, hl, o2⟩ := o.more (z := r) hB2 x2
      exact ⟨acc, hacc, by omega, o2⟩
    rintro H1 ⟨hB1, x1, nsr, sb, sl, ss, h6, hs1⟩
    refine ⟨_, rfl, b, l, 6, rfl, hB1, by decide, by decide, fun m0 H2 a0 a1 hB2 x2 => ⟨1, m0, rfl, rfl, small0, fun lr nlr => ⟨_, _, rfl, ?_⟩⟩⟩
    have hs2 := x2 sr _ hs1 sb sl
    have y2 := x1.trans x2
    obtain ⟨lb, ll⟩ := new_ne hB2 nlr
    have lrs : lr ≠ sr := fun z => by rw [z, hs2] at nlr; cases nlr
    have nlr0 := new_old y2 hB2 nlr
    refine ⟨_, rfl, _, rfl, b, l, m, rfl, box_new hB2 nlr, by omega, by omega, fun tt H4 t0 t1 hB4 x4 => ⟨1, tt, rfl, rfl, 1 + tt, rfl, by omega, by omega, ?_⟩⟩
    have hs4 : H4 sr = some (.lst (ss.map V.int)) := x4 sr _ (by rw [upd_ne lrs.symm]; exact hs2) sb sl
    have y4 := (y2.trans (kb_new nlr)).trans x4
    have hl4 : H4 lr = some (.lst []) := x4 lr _ upd_same lb ll
    refine for_range (n := (1 + tt).toNat) (fun i σ H' => ∃ (mm : Int) (as : List Addr) (c5 c6 : Option V), σ = [some (.ref b), some (.int m), some (.ref sr), some (.int mm), some (.ref lr), c5, c6, none] ∧ 1 ≤ mm ∧ mm ≤ 6 ∧ BoxAt H' b l ∧ KB b l H H' ∧ H' sr = some (.lst (ss.map V.int)) ∧ H' lr = some (.lst (as.map V.ref)) ∧ as.length = i ∧ RowsP H' as)
      ⟨1 + m0, [], none, none, rfl, by omega, by omega, hB4, y4, hs4, hl4, rfl, fun p h => by simp at h⟩ ?_ ?_
    · rintro i σ H5 hi ⟨mm, as, c5, c6, rfl, mm1, mm6, hB5, y5, hs5, hl5, hlen, hR5⟩
      refine ⟨_, rfl, b, l, 8, rfl, hB5, by decide, by decide, fun way H6 w0 w1 hB6 x6 => ?_⟩
      refine ⟨_, rfl, b, l, 6, rfl, hB6, by decide, by decide, fun n6 H7 n0 n1 hB7 x7 => ⟨1, n6, rfl, rfl, _, rfl, mm, 1, rfl, rfl, 1, mm - 1, rfl, _, rfl, mm, 1, rfl, rfl, 6, mm + 1, rfl, _, rfl, line10 (by show 4 ≤ 1000; decide), fun q nq => ?_⟩⟩
      obtain ⟨mv, hmv, emv⟩ := pick (xs := [1 + n6, (if mm - 1 > 1 then mm - 1 else 1), (if mm + 1 < 6 then mm + 1 else 6), mm]) (i := if 3 < way then 3 else way) (by split <;> omega) (by show _ < (4 : Int); split <;> omega)
      have hmv2 : 1 ≤ mv ∧ mv ≤ 6 := by
        simp only [List.mem_cons, List.not_mem_nil, or_false] at hmv
        rcases hmv with h | h | h | h
        · omega
        · split at h <;> omega
        · split at h <;> omega
        · omega
      refine ⟨_, rfl, way, 3, rfl, q, _, _, .int mv, rfl, rfl, SqL.of upd_same, atI_map (f := V.int) emv, ?_⟩
      have y7 : KB b l H5 (upd H7 q (.lst (List.map V.int [1 + n6, (if mm - 1 > 1 then mm - 1 else 1), (if mm + 1 < 6 then mm + 1 else 6), mm]))) := (x6.trans x7).trans (kb_new nq)
      have hB8 := box_new (o := .lst (List.map V.int [1 + n6, (if mm - 1 > 1 then mm - 1 else 1), (if mm + 1 < 6 then mm + 1 else 6), mm])) hB7 nq
      have hl8 := y7 lr _ hl5 lb ll
      have hs8 := y7 sr _ hs5 sb sl
      refine ⟨_, rfl, .inl ⟨rfl, _, SqL.of hl8⟩, _, rfl, _, rfl, _, rfl, b, l, sr, ss, mv, rfl, hB8, hs8, h6, sb, sl, hmv2.1, hmv2.2, fun p r H9 hB9 x9 np hp hro => ?_⟩
      have hl9 := x9 lr _ hl8 lb ll
      have hs9 := x9 sr _ hs8 sb sl
      have plr : p ≠ lr := fun z => by rw [z, hl9] at hp; cases hp
      refine ⟨lr, _, .ref p, rfl, rfl, hl9, by rw [List.length_map]; omega, ?_⟩
      have el : as.map V.ref ++ [V.ref p] = (as ++ [p]).map V.ref := by simp
      rw [el]
      have y9 := kb_upd (o := .lst ((as ++ [p]).map V.ref)) (y5.trans (y7.trans x9)) nlr0
      have hB10 := box_upd (o := .lst ((as ++ [p]).map V.ref)) hB9 lb ll
      have hl10 : (upd H9 lr (.lst ((as ++ [p]).map V.ref))) lr = some (.lst ((as ++ [p]).map V.ref)) := upd_same
      have hs10 : (upd H9 lr (.lst ((as ++ [p]).map V.ref))) sr = some (.lst (ss.map V.int)) := by rw [upd_ne lrs.symm]; exact hs9
      have hR10 : RowsP (upd H9 lr (.lst ((as ++ [p]).map V.ref))) (as ++ [p]) := fun u hu => by
        rcases List.mem_append.mp hu with h | h
        · obtain ⟨r2, e1, e2⟩ := hR5 u h
          have e3 := kb_tup (y7.trans x9) hB5 u _ e1
          exact ⟨r2, by rw [upd_ne (fun z => by rw [z, hl9] at e3; cases e3)]; exact e3, e2⟩
        · rw [List.mem_singleton.mp h]
          exact ⟨r, by rw [upd_ne plr]; exact hp, hro⟩
      have hlen2 : (as ++ [p]).length = i + 1 := by rw [List.length_append, hlen]; rfl
      generalize (upd H9 lr (.lst ((as ++ [p]).map V.ref))) = H10 at y9 hB10 hl10 hs10 hR10 ⊢
      generalize as ++ [p] = as2 at hl10 hR10 hlen2 ⊢
      refine ⟨_, rfl, rfl, _, rfl, iteB ?_ ?_⟩
      · have ln : ((as2.map V.ref).length : Int) = ((i + 1 : Nat) : Int) := by rw [List.length_map, hlen2]
        refine ⟨_, rfl, _, rfl, _, rfl, lr, _, rfl, .inl (SqL.of hl10), b, l, _, rfl, hB10, by omega, by omega, fun j H11 j0 j1 hB11 x11 => ?_⟩
        have hl11 := x11 lr _ hl10 lb ll
        obtain ⟨u, hu, eu⟩ := pick (xs := as2) (i := j) j0 (by rw [hlen2]; omega)
        obtain ⟨r2, e1, e2⟩ := hR10 u hu
        have e3 := kb_tup x11 hB10 u _ e1
        have ulr : u ≠ lr := fun z => by rw [z, hl11] at e3; cases e3
        have ix : ixN (as2.map V.ref).length (-1) = some i := by rw [List.length_map, hlen2]; exact ixm1
        refine ⟨lr, _, j, .ref u, rfl, rfl, SqL.of hl11, atI_map eu, _, rfl, 1, rfl, lr, _, -1, i, rfl, rfl, hl11, ix, ?_⟩
        have es : (as2.map V.ref).set i (V.ref u) = (as2.set i u).map V.ref := by rw [List.map_set]
        rw [es]
        have gu : (as2.set i u)[i]? = some u := List.getElem?_set_self (by omega)
        have hs11 := x11 sr _ hs10 sb sl
        refine ⟨_, rfl, 1, rfl, lr, _, -1, .ref u, rfl, rfl, SqL.of upd_same, atm1 (n := i) (by rw [List.length_map, List.length_set, hlen2]) (by rw [List.getElem?_map, gu]; rfl), u, _, rfl, .inr (SqT.of (by rw [upd_ne ulr]; exact e3)), ?_⟩
        have l1 := e2.pos
        have l2 := e2.len
        have lr2 : (sV r2).length = r2.length := List.length_map ..
        refine ⟨_, as2.set i u, _, _, rfl, by omega, by omega, box_upd hB11 lb ll, kb_upd (y9.trans x11) nlr0, by rw [upd_ne lrs.symm]; exact hs11, upd_same, by rw [List.length_set, hlen2], fun v hv => ?_⟩
        rcases List.mem_or_eq_of_mem_set hv with h | h
        · obtain ⟨r3, f1, f2⟩ := hR10 v h
          have f3 := kb_tup x11 hB10 v _ f1
          exact ⟨r3, by rw [upd_ne (fun z => by rw [z, hl11] at f3; cases f3)]; exact f3, f2⟩
        · rw [h]
          exact ⟨r2, by rw [upd_ne ulr]; exact e3, e2⟩
      · exact ⟨_, as2, _, _, rfl, hmv2.1, hmv2.2, hB10, y9, hs10, hl10, hlen2, hR10⟩
    · rintro σ H5 ⟨mm, as, c5, c6, rfl, mm1, mm6, hB5, y5, hs5, hl5, hlen, hR5⟩
      obtain ⟨rows, g1, g2, g3⟩ := hR5.page
      exact ⟨_, rfl, k lr as rows H5 hB5 y5 nlr0 lb ll hl5 g1 g2 ⟨by omega, by omega, g3⟩⟩
end
end TG
namespace TG
open PySem L2 Gx
theorem same_refl {H : Hp} : Same H H := fun _ _ h => h
theorem same_trans {H H1 H2 : Hp} (a : Same H H1) (b : Same H1 H2) : Same H H2 := fun c o h => b c o (a c o h)
theorem same_new {H : Hp} {p : Addr} {o : HO} (n : H p = none) : Same H (upd H p o) := fun c u h => by rw [upd_ne (ne_of_none h n)]; exact h
theorem same_upd {H H' : Hp} {p : Addr} {o : HO} (x : Same H H') (n : H p = none) : Same H (upd H' p o) := fun c u h => by rw [upd_ne (ne_of_none h n)]; exact x c u h
theorem same_sqL {K : PySem.W.Frag} {H H' : Hp} {a : Addr} {xs : List V} (e : Same H H') (h : SqL K H a xs) : SqL K H' a xs := by
  rcases h with (z | ⟨o, z⟩) | z
  · exact .inl (.inl (e _ _ z))
  · exact .inl (.inr ⟨o, e _ _ z⟩)
  · exact .inr z
theorem same_sqT {K : PySem.W.Frag} {H H' : Hp} {a : Addr} {xs : List V} (e : Same H H') (h : SqT K H a xs) : SqT K H' a xs := by
  rcases h with (z | ⟨o, z⟩) | z
  · exact .inl (.inl (e _ _ z))
  · exact .inl (.inr ⟨o, e _ _ z⟩)
  · exact .inr z
theorem same_old {H H' : Hp} {p : Addr} (e : Same H H') (n : H' p = none) : H p = none := by
  cases q : H p with
  | none => rfl
  | some o => rw [e _ _ q] at n; cases n
section
variable {P : Program} {w : World} {K : PySem.W.Frag} {mg : Str → Option Value} {base : Heap} {cs : List (Addr × Addr)}
end
end TG
namespace TG
open PySem L2 Gx
theorem lo_eq {rows : List (List Str)} {c i : Nat} : (loB rows c i = i) ↔ (i = 0 ∨ clB rows c (i - 1) = false) := by
  have le : ∀ j, loB rows c j ≤ j := by
    intro j
    induction j with
    | zero => exact Nat.le_refl _
    | succ j ih =>
      show (if clB rows c j = true then loB rows c j else j + 1) ≤ j + 1
      split
      · omega
      · omega
  cases i with
  | zero => exact ⟨fun _ => .inl rfl, fun _ => rfl⟩
  | succ i =>
    rw [Nat.add_sub_cancel]
    show (if clB rows c i = true then loB rows c i else i + 1) = i + 1 ↔ _
    have := le i
    by_cases h : clB rows c i = true
    · rw [if_pos h, h]
      constructor
      · intro q; omega
      · intro q
        rcases q with q | q
        · omega
        · cases q
    · rw [if_neg h]
      constructor
      · intro _; exact .inr (by cases q : clB rows c i with
          | true => exact absurd q h
          | false => rfl)
      · intro _; rfl
section
variable {P : Program} {w : World} {K : PySem.W.Frag} {mg : Str → Option Value} {base : Heap} {cs : List (Addr × Addr)}
end
end TG
namespace TG
open PySem L2 Gx
theorem st_cl {rows : List (List Str)} {c i : Nat} (h : stB rows c i = true) : clB rows c i = true ∧ loB rows c i = i ∧ hiB rows c (i + 1) = hiB rows c i ∧ i < hiB rows c i ∧ hiB rows c i ≤ rows.length ∧ ∀ j, i ≤ j → j < hiB rows c i → clB rows c j = true := by
  unfold stB at h
  obtain ⟨h1, h2⟩ := Bool.and_eq_true_iff.mp h
  refine ⟨h1, lo_eq.mpr ?_, (hi_yes h1).symm, ?_, hi_le (Nat.le_of_lt (cl_lt h1)), fun j h3 h4 => hi_in (j - i) i j (by omega) h4⟩
  · rcases Bool.or_eq_true_iff.mp h2 with q | q
    · exact .inl (of_decide_eq_true q)
    · exact .inr (by simpa using q)
  · rw [hi_yes h1]; exact hi_ge rows c (i + 1)
end TG
namespace TG
open PySem L2 Gx
theorem lo_le (rows : List (List Str)) (c : Nat) : ∀ i, loB rows c i ≤ i
  | 0 => Nat.le_refl _
  | i + 1 => by
    show (if clB rows c i = true then loB rows c i else i + 1) ≤ i + 1
    have := lo_le rows c i
    split <;> omega
theorem lo_in {rows : List (List Str)} {c : Nat} : ∀ {i j : Nat}, loB rows c i ≤ j → j < i → clB rows c j = true
  | 0, j, _, h => absurd h (Nat.not_lt_zero _)
  | i + 1, j, h1, h2 => by
    have h1 : (if clB rows c i = true then loB rows c i else i + 1) ≤ j := h1
    split at h1
    · rename_i q
      by_cases e : j = i
      · rw [e]; exact q
      · exact lo_in h1 (by omega)
    · omega
theorem st_lo {rows : List (List Str)} {c i : Nat} (h : clB rows c i = true) : stB rows c (loB rows c i) = true := by
  have h1 := lo_le rows c i
  have h2 : clB rows c (loB rows c i) = true := by
    by_cases e : loB rows c i = i
    · rw [e]; exact h
    · exact lo_in (Nat.le_refl _) (by omega)
  unfold stB
  rw [h2, Bool.true_and]
  have h3 : loB rows c i = 0 ∨ clB rows c (loB rows c i - 1) = false := by
    clear h h2 h1
    induction i with
    | zero => exact .inl rfl
    | succ i ih =>
      show (if clB rows c i = true then loB rows c i else i + 1) = 0 ∨ clB rows c ((if clB rows c i = true then loB rows c i else i + 1) - 1) = false
      by_cases q : clB rows c i = true
      · rw [if_pos q]; exact ih
      · rw [if_neg q, Nat.add_sub_cancel]
        exact .inr (by simpa using q)
  rcases h3 with q | q
  · rw [decide_eq_true q, Bool.true_or]
  · rw [q, Bool.not_false, Bool.or_true]
theorem hi_down {rows : List (List Str)} {c x : Nat} : ∀ {d : Nat}, (∀ j, x ≤ j → j < x + d → clB rows c j = true) → hiB rows c x = hiB rows c (x + d)
  | 0, _ => rfl
  | d + 1, h => by
    rw [hi_down (d := d) fun j h1 h2 => h j h1 (by omega), hi_yes (h (x + d) (by omega) (by omega)), Nat.add_assoc]
theorem hi_lo (rows : List (List Str)) (c i : Nat) : hiB rows c (loB rows c i) = hiB rows c i := by
  have h := lo_le rows c i
  obtain ⟨d, hd⟩ := Nat.exists_eq_add_of_le h
  have := hi_down (rows := rows) (c := c) (x := loB rows c i) (d := d) fun j h1 h2 => lo_in h1 (by omega)
  rw [this, ← hd]
theorem lo_same {rows : List (List Str)} {c x : Nat} (h : stB rows c x = true) : ∀ {d : Nat}, x + d < hiB rows c x → loB rows c (x + d) = x
  | 0, _ => (st_cl h).2.1
  | d + 1, hd => by
    show (if clB rows c (x + d) = true then loB rows c (x + d) else x + d + 1) = x
    rw [if_pos ((st_cl h).2.2.2.2.2 (x + d) (by omega) (by omega))]
    exact lo_same h (by omega)
/-- a closed cell's stretch -/
theorem cl_run {rows : List (List Str)} {c i : Nat} (h : clB rows c i = true) : loB rows c i ≤ i ∧ i < hiB rows c i ∧ hiB rows c (i + 1) = hiB rows c i ∧ hiB rows c i ≤ rows.length ∧ ∀ j, loB rows c i ≤ j → j < hiB rows c i → clB rows c j = true := by
  obtain ⟨_, _, _, _, h2, h3⟩ := st_cl (st_lo h)
  rw [hi_lo] at h2 h3
  refine ⟨lo_le rows c i, ?_, (hi_yes h).symm, h2, h3⟩
  rw [hi_yes h]
  exact hi_ge rows c (i + 1)
abbrev covB (i : Nat) (q : Nat × Nat × Nat) : Bool := decide (q.2.1 ≤ i ∧ i < q.2.2)
theorem filter_one {p : Nat → Bool} {a : Nat} (h : ∀ x, p x = decide (x = a)) : ∀ n, (List.range n).filter p = if a < n then [a] else [] := by
  intro n
  induction n with
  | zero => simp
  | succ n ih =>
    rw [List.range_succ, List.filter_append, ih]
    by_cases e : n = a
    · subst e
      rw [if_neg (Nat.lt_irrefl _), if_pos (Nat.lt_succ_self _), List.filter_cons_of_pos (by rw [h]; exact decide_eq_true rfl)]
      rfl
    · rw [List.filter_cons_of_neg (by rw [h, decide_eq_false e]; exact Bool.false_ne_true), List.filter_nil, List.append_nil]
      by_cases q : a < n
      · rw [if_pos q, if_pos (by omega)]
      · rw [if_neg q, if_neg (by omega)]
theorem col_cov (rows : List (List Str)) (c i : Nat) : (ofCol rows c).filter (covB i) = if clB rows c i = true then [(c, loB rows c i, hiB rows c i)] else [] := by
  unfold ofCol runsB
  rw [List.map_map, List.filter_map]
  rw [List.filter_filter]
  by_cases h : clB rows c i = true
  · rw [if_pos h]
    have hp : ∀ x, (((covB i) ∘ ((fun p : Nat × Nat => (c, p.1, p.2)) ∘ fun i => (i, hiB rows c i))) x && stB rows c x) = decide (x = loB rows c i) := fun x => by
      rw [Bool.eq_iff_iff, Bool.and_eq_true, decide_eq_true_eq]
      constructor
      · rintro ⟨h1, h2⟩
        obtain ⟨h3, h4⟩ := of_decide_eq_true h1
        have h3 : x ≤ i := h3
        have h4 : i < hiB rows c x := h4
        obtain ⟨d, hd⟩ := Nat.exists_eq_add_of_le h3
        rw [hd]
        exact (lo_same h2 (by omega)).symm
      · intro e
        subst e
        obtain ⟨h1, h2, _⟩ := cl_run h
        refine ⟨decide_eq_true ⟨h1, ?_⟩, st_lo h⟩
        show i < hiB rows c (loB rows c i)
        rw [hi_lo]; exact h2
    rw [filter_one hp, if_pos (Nat.lt_of_le_of_lt (lo_le rows c i) (cl_lt h))]
    show [(c, loB rows c i, hiB rows c (loB rows c i))] = _
    rw [hi_lo]
  · rw [if_neg h]
    have : List.filter (fun x => ((covB i) ∘ ((fun p : Nat × Nat => (c, p.1, p.2)) ∘ fun i => (i, hiB rows c i))) x && stB rows c x) (List.range rows.length) = [] := by
      refine List.filter_eq_nil_iff.mpr fun x _ q => ?_
      obtain ⟨h1, h2⟩ := Bool.and_eq_true_iff.mp q
      obtain ⟨h3, h4⟩ := of_decide_eq_true h1
      have h3 : x ≤ i := h3
      have h4 : i < hiB rows c x := h4
      exact h ((st_cl h2).2.2.2.2.2 i h3 h4)
    rw [this]
    rfl
/-- how many cells of row i are closed -/
def ncl (rows : List (List Str)) (i : Nat) : Nat := match rows[i]? with
  | some r => r.length - 1
  | none => 0
theorem cl_ncl (rows : List (List Str)) (c i : Nat) : clB rows c i = decide (c < ncl rows i) := by
  unfold clB ncl
  cases rows[i]? with
  | none => exact (decide_eq_false (Nat.not_lt_zero _)).symm
  | some r =>
    show decide (c + 1 < r.length) = decide (c < r.length - 1)
    exact decide_eq_decide.mpr (by omega)
def entOf (rows : List (List Str)) (i c : Nat) : Nat × Nat × Nat := (c, loB rows c i, hiB rows c i)
theorem flat_if {α : Type} {f : Nat → α} {m : Nat} : ∀ d, (List.range d).flatMap (fun c => if c < m then [f c] else []) = (List.range (min d m)).map f := by
  intro d
  induction d with
  | zero => simp
  | succ d ih =>
    rw [List.range_succ, List.flatMap_append, ih, List.flatMap_cons, List.flatMap_nil, List.append_nil]
    by_cases h : d < m
    · rw [if_pos h, Nat.min_eq_left (by omega), Nat.min_eq_left (by omega), List.range_succ, List.map_append]
      rfl
    · rw [if_neg h, List.append_nil, Nat.min_eq_right (by omega), Nat.min_eq_right (by omega)]
theorem ncl_le {rows : List (List Str)} (hO : PgOk rows) (i : Nat) : ncl rows i ≤ 5 := by
  unfold ncl
  cases q : rows[i]? with
  | none => exact Nat.zero_le _
  | some r =>
    have := (hO.rows r (List.mem_of_getElem? q)).len
    show r.length - 1 ≤ 5
    omega
/-- the entries that hold row i, in turn -/
theorem ent_cov {rows : List (List Str)} (hO : PgOk rows) (i : Nat) : (entB rows).filter (covB i) = (List.range (ncl rows i)).map (entOf rows i) := by
  unfold entB
  rw [List.filter_flatMap]
  have e : (fun c => (ofCol rows c).filter (covB i)) = fun c => if c < ncl rows i then [entOf rows i c] else [] := by
    funext c
    rw [col_cov, cl_ncl]
    by_cases h : c < ncl rows i
    · rw [if_pos (decide_eq_true h), if_pos h]; rfl
    · rw [if_neg (by rw [decide_eq_false h]; exact Bool.false_ne_true), if_neg h]
  rw [e, flat_if, Nat.min_eq_right (ncl_le hO i)]
def cntB (rows : List (List Str)) (j i : Nat) : Nat := (((entB rows).take j).filter (covB i)).length
theorem cnt_all {rows : List (List Str)} (hO : PgOk rows) (i : Nat) : cntB rows (entB rows).length i = ncl rows i := by
  unfold cntB
  rw [List.take_of_length_le (Nat.le_refl _), ent_cov hO, List.length_map, List.length_range]
theorem cnt_no {rows : List (List Str)} {j i : Nat} {q : Nat × Nat × Nat} (hq : (entB rows)[j]? = some q) (h : covB i q = false) : cntB rows (j + 1) i = cntB rows j i := by
  unfold cntB
  rw [List.take_add_one, hq, List.filter_append]
  have : List.filter (covB i) (some q).toList = [] := by
    show List.filter (covB i) [q] = []
    rw [List.filter_cons_of_neg (by rw [h]; exact Bool.false_ne_true)]
    rfl
  rw [this, List.append_nil]
theorem cnt_yes {rows : List (List Str)} (hO : PgOk rows) {j i : Nat} {q : Nat × Nat × Nat} (hq : (entB rows)[j]? = some q) (h : covB i q = true) : cntB rows (j + 1) i = cntB rows j i + 1 ∧ q = entOf rows i (cntB rows j i) ∧ cntB rows j i < ncl rows i := by
  have e1 : ((entB rows).take (j + 1)).filter (covB i) = ((entB rows).take j).filter (covB i) ++ [q] := by
    rw [List.take_add_one, hq, List.filter_append]
    congr 1
    show List.filter (covB i) [q] = [q]
    rw [List.filter_cons_of_pos h]
    rfl
  have e2 : (entB rows).filter (covB i) = (((entB rows).take j).filter (covB i) ++ [q]) ++ ((entB rows).drop (j + 1)).filter (covB i) := by
    rw [← e1, ← List.filter_append, List.take_append_drop]
  have e3 : ((entB rows).filter (covB i))[cntB rows j i]? = some q := by
    rw [e2, List.append_assoc]
    have e4 : cntB rows j i = (List.filter (covB i) (List.take j (entB rows))).length := rfl
    rw [e4, List.getElem?_append_right (Nat.le_refl _), Nat.sub_self]
    rfl
  rw [ent_cov hO, List.getElem?_map] at e3
  refine ⟨by unfold cntB; rw [e1, List.length_append]; rfl, ?_⟩
  by_cases hl : cntB rows j i < ncl rows i
  · rw [List.getElem?_eq_getElem (by rw [List.length_range]; exact hl), List.getElem_range] at e3
    exact ⟨(Option.some.inj e3).symm, hl⟩
  · rw [List.getElem?_eq_none (by rw [List.length_range]; omega)] at e3
    cases e3
def leftB (rows : List (List Str)) (gap least : Int) (i : Nat) : Nat → Int
  | 0 => 0
  | c + 1 => leftB rows gap least i c + wB rows gap least i c
def leftsB (rows : List (List Str)) (gap least : Int) (i n : Nat) : List Int := (List.range (n + 1)).map (leftB rows gap least i)
theorem lefts_snoc (rows : List (List Str)) (gap least : Int) (i n : Nat) : leftsB rows gap least i (n + 1) = leftsB rows gap least i n ++ [leftB rows gap least i n + wB rows gap least i n] := by
  unfold leftsB
  rw [List.range_succ (n := n + 1), List.map_append]
  rfl
theorem lefts_len (rows : List (List Str)) (gap least : Int) (i n : Nat) : (leftsB rows gap least i n).length = n + 1 := by
  unfold leftsB
  rw [List.length_map, List.length_range]
theorem lefts_get {rows : List (List Str)} {gap least : Int} {i n c : Nat} (h : c ≤ n) : (leftsB rows gap least i n)[c]? = some (leftB rows gap least i c) := by
  unfold leftsB
  rw [List.getElem?_map, List.getElem?_range (by omega)]
  rfl
end TG
namespace TG
open PySem L2 Gx
section
variable {P : Program} {w : World} {K : PySem.W.Frag} {mg : Str → Option Value} {base : Heap} {cs : List (Addr × Addr)}
end
end TG
namespace TG
open PySem L2 Gx
theorem ent_le {rows : List (List Str)} {j : Nat} {q : Nat × Nat × Nat} (h : (entB rows)[j]? = some q) : q.2.1 < q.2.2 ∧ q.2.2 ≤ rows.length := by
  obtain ⟨c, _, h2⟩ := List.mem_flatMap.mp (show q ∈ (List.range 5).flatMap (ofCol rows) from List.mem_of_getElem? h)
  obtain ⟨p, h3, rfl⟩ := List.mem_map.mp h2
  obtain ⟨i, hi, e⟩ := List.getElem_of_mem h3
  obtain ⟨f1, f2, _⟩ := run_facts (i := i) (by rw [List.getElem?_eq_getElem hi, e])
  exact ⟨f1, f2⟩
section
variable {P : Program} {w : World} {K : PySem.W.Frag} {mg : Str → Option Value} {base : Heap} {cs : List (Addr × Addr)}
def spCC (K : PySem.W.Frag) (cs : List (Addr × Addr)) : Sp := fun vs H Q _ => ∃ (a st : Addr) (as : List Addr) (rows : List (List Str)) (gap least : Int), vs = [.ref a, .ref st] ∧ Tabs cs H ∧ PageAt K H a as rows ∧ PgOk rows ∧ StyleAt K H st gap least ∧
  ∀ (r : Addr) (ls : List Addr) (H' : Hp), Ex cs H H' → H r = none → (∀ l ∈ ls, H l = none) → H' r = some (.lst (ls.map V.ref)) → ls.length = rows.length → (∀ (i : Nat) (l : Addr), ls[i]? = some l → CellsAt H' rows gap least i (ncl rows i) l) → Q (.ref r) H'
abbrev nmCC : List Str := ["page", "style", "found", "rows", "column", "begin", "end", "width", "right", "holders", "number", "row"]
theorem sc_cc : FnScope nmCC ["page", "style"] (defScope s_closed_cells) := ⟨rfl, rfl, rfl, by decide +kernel, rfl, by decide +kernel, by decide +kernel⟩
theorem ok_cc {f g : Addr} {fd fdg : FuncData} (T : Txt mg) (F : Fun K "closed_cells" "closed_cells" s_closed_cells f fd)
    (G : FnOk P w K mg base CX0 12 g fdg ["page", "style"] (spStr K cs)) (kp : PySem.W.keepIn K (.ref g) = true) (bd : Binds K fdg ["page", "style"] []) (mgg : mg "stretches" = some (.ref g)) : FnOk P w K mg base CX0 13 f fd ["page", "style"] (spCC K cs) := by
  refine F.ok sc_cc (fun vs H Q E h => ?_) (fun cdv A outer s H vs Q E hr h => ?_)
  · obtain ⟨a, st, as, rows, gap, least, rfl, _⟩ := h
    rfl
  · obtain ⟨a, st, as, rows, gap, least, rfl, hT, hP, hO, hS, k⟩ := h
    have nd := sc_cc.nd
    refine ⟨_, pss_cons (ps_set (i := 2) nd rfl (.inl rfl) (pe_call G hr (by rfl) mgg kp bd .nil pass0 (pa_cons (pv 0) (pa_cons (pv 1) pa_nil))))
      (pss_cons (ps_setLc (i := 3) (own := [("row", 11)]) (g := gName 11) rfl nd rfl rfl (sw_true rfl rfl rfl (by decide +kernel)) (pi_list (pv 0)) (blkOk_by (own := [("row", 11)]) (N := nmCC) (sc := defScope s_closed_cells) (by decide +kernel))
        (fun _ _ _ _ _ => pg_name (i := 11) nd rfl (Or.inl rfl)) (fun _ _ _ _ _ => pts_nil) (fun _ _ _ _ _ => pe_lst pa_nil))
      (pss_cons (ps_for PassesOwn.never rfl (pi_list (pv 2)) (pg_tup rfl (pgs_cons (pg_name (i := 4) nd rfl (.inl rfl)) (pgs_cons (pg_name (i := 5) nd rfl (.inl rfl)) (pgs_cons (pg_name (i := 6) nd rfl (.inl rfl)) (pgs_cons (pg_name (i := 7) nd rfl (.inl rfl)) (pgs_cons (pg_name (i := 8) nd rfl (.inl rfl)) (pgs_cons (pg_name (i := 9) nd rfl (.inl rfl)) pgs_nil)))))))
        (pss_one (ps_for PassesOwn.never rfl (pi_range2 (by rfl) T.range (pa_cons (pv 5) (pa_cons (pv 6) pa_nil))) (pg_name (i := 10) nd rfl (.inl rfl))
          (pss_one (ps_expr (pe_bm PySem.F.plainAttrs_list PySem.F.slot_list_append PySem.F.type_list_append mt_append (pe_ix ix_list (pv 3) (pv 10) (fun _ _ => rfl)) (pa_cons (pe_tup (pa_cons (pv 7) (pa_cons (pv 8) pa_nil))) pa_nil)))))))
      (pss_one (ps_ret (pv 3))))), ?_⟩
    have ll := hO.len
    have szl : (1000 : Nat) < sizeLine := by decide
    have las : (as.map V.ref).length = rows.length := by rw [List.length_map, hP.len]
    refine ⟨_, rfl, _, rfl, a, st, as, rows, gap, least, rfl, hT, hP, hO, hS, fun r ts hs H1 x1 nr nts nhs hr1 ds => ?_⟩
    have hT1 := x1.tab
    refine ⟨_, rfl, a, rfl, ⟨_, x1.sqL hP.lst⟩, fun D nD => lc_list (xs := as.map V.ref) (fun i H' => ∃ ls : List Addr, Ex cs H1 H' ∧ H' D = some (.lst (ls.map V.ref)) ∧ ls.length = i ∧ ls.Nodup ∧ ∀ l ∈ ls, H1 l = none ∧ l ≠ D ∧ H' l = some (.lst []))
      ⟨[], Ex.laid hT1 nD, upd_same, rfl, List.nodup_nil, fun l h => by simp at h⟩ (fun i H' _ ⟨ls, x, _⟩ => x.sqL (x1.sqL hP.lst)) ?_ ?_⟩
    · rintro i v H2 hv ⟨ls, x2, hD, hl, hn, hf⟩
      have hil : i < as.length := by
        have := (List.getElem?_eq_some_iff.mp hv).1
        rw [List.length_map] at this
        exact this
      refine ⟨rfl, small0, fun p np => ⟨_, by rw [upd_ne (ne_of_none hD np)]; exact hD, by rw [List.length_map, hl]; have := hP.len; omega, ls ++ [p], ?_, by rw [upd_same, List.map_append]; rfl, by rw [List.length_append, hl]; rfl, ?_, fun l h => ?_⟩⟩
      · exact ex_new hT1 (x2.trans (Ex.laid x2.tab np)) nD
      · refine List.nodup_append.mpr ⟨hn, by simp, fun u hu v hv e => ?_⟩
        rw [List.mem_singleton.mp hv] at e
        have := (hf u hu).2.2
        rw [e, np] at this
        cases this
      · have pD : p ≠ D := fun z => by rw [z, hD] at np; cases np
        rcases List.mem_append.mp h with z | z
        · obtain ⟨h1, h2, h3⟩ := hf l z
          exact ⟨h1, h2, by rw [upd_ne h2, upd_ne (ne_of_none h3 np)]; exact h3⟩
        · rw [List.mem_singleton.mp z]
          exact ⟨x2.old _ np, pD, by rw [upd_ne pD, upd_same]⟩
    · rintro H2 ⟨ls, x2, hD, hl, hn, hf⟩
      rw [las] at hl
      have hnd : ∀ (i j : Nat) (l m : Addr), ls[i]? = some l → ls[j]? = some m → i ≠ j → l ≠ m := fun i j l m h1 h2 h3 e => by
        subst e
        exact h3 (nd_ix hn h1 h2)
      refine ⟨_, rfl, r, rfl, ⟨_, SqL.of (x2.lst hr1)⟩, for_list (xs := ts.map V.ref) (fun j σ H' => ∃ c4 c5 c6 c7 c8 c9 c10 : Option V, σ = [some (.ref a), some (.ref st), some (.ref r), some (.ref D), c4, c5, c6, c7, c8, c9, c10, none] ∧ Ex cs H1 H' ∧ H' D = some (.lst (ls.map V.ref)) ∧ ∀ (i : Nat) (l : Addr), ls[i]? = some l → CellsAt H' rows gap least i (cntB rows j i) l)
        ⟨_, _, _, _, _, _, _, rfl, x2, hD, fun i l h => ⟨[], (hf l (List.mem_of_getElem? h)).2.2, rfl, fun c t h => by simp at h⟩⟩ (fun j σ H' _ ⟨_, _, _, _, _, _, _, _, x, _⟩ => SqL.of (x.lst hr1)) ?_ ?_⟩
      · rintro j v σ H3 hv ⟨c4, c5, c6, c7, c8, c9, c10, rfl, x3, hD3, hC⟩
        obtain ⟨t, ht, rfl⟩ := get_map hv
        have hjt := (List.getElem?_eq_some_iff.mp ht).1
        obtain ⟨q, hq⟩ := getP (xs := entB rows) (i := j) (by rw [← ds.len]; exact hjt)
        obtain ⟨hh, hhh⟩ := getP (xs := hs) (i := j) (by rw [ds.len2, ← ds.len]; exact hjt)
        have dt := x3.tup (ds.at_ j t hh q ht hhh hq).1
        refine ⟨t, _, rfl, .inl (.inl dt), rfl, _, _, rfl, _, _, rfl, _, _, rfl, _, _, rfl, _, _, rfl, _, _, rfl, rfl, ?_⟩
        refine ⟨_, rfl, _, rfl, (q.2.1 : Int), (q.2.2 : Int), rfl, ?_⟩
        obtain ⟨q1, q2⟩ := ent_le hq
        refine ⟨by omega, for_range (lo := (q.2.1 : Int)) (n := ((q.2.2 : Int) - (q.2.1 : Int)).toNat) (fun k σ H' => ∃ c10 : Option V, σ = [some (.ref a), some (.ref st), some (.ref r), some (.ref D), some (.int (q.1 : Nat)), some (.int (q.2.1 : Nat)), some (.int (q.2.2 : Nat)), some (.int (widthB (cellsB rows q.1 q.2.1 q.2.2) gap least)), some (.bl (rightB (cellsB rows q.1 q.2.1 q.2.2))), some (.ref hh), c10, none] ∧ Ex cs H1 H' ∧ H' D = some (.lst (ls.map V.ref)) ∧
          ∀ (i : Nat) (l : Addr), ls[i]? = some l → CellsAt H' rows gap least i (cntB rows j i + if q.2.1 ≤ i ∧ i < q.2.1 + k then 1 else 0) l)
          ⟨_, rfl, x3, hD3, fun i l h => by rw [if_neg (by omega)]; exact hC i l h⟩ ?_ ?_⟩
        · rintro k σ H4 hk ⟨c10, rfl, x4, hD4, hC4⟩
          have hx : q.2.1 + k < q.2.2 := by omega
          obtain ⟨l, hl1⟩ := getP (xs := ls) (i := q.2.1 + k) (by omega)
          obtain ⟨hln, hlD, _⟩ := hf l (List.mem_of_getElem? hl1)
          have hcl := hC4 _ l hl1
          rw [if_neg (by omega), Nat.add_zero] at hcl
          obtain ⟨us, u1, u2, u3⟩ := hcl
          have hcov : covB (q.2.1 + k) q = true := decide_eq_true ⟨by omega, hx⟩
          obtain ⟨v1, v2, v3⟩ := cnt_yes hO hq hcov
          have v4 := ncl_le hO (q.2.1 + k)
          refine ⟨_, rfl, _, rfl, D, _, ((q.2.1 + k : Nat) : Int), .ref l, rfl, rfl, SqL.of hD4, atI_nat (by rw [List.getElem?_map, hl1]; rfl), .inl ⟨rfl, _, SqL.of u1⟩, _, rfl, _, rfl, line10 (by show 2 ≤ 1000; decide), fun t0 nt0 => ⟨l, us.map V.ref, .ref t0, rfl, rfl, by rw [upd_ne (ne_of_none u1 nt0)]; exact u1, by rw [List.length_map, u2]; omega, ?_⟩⟩
          have x5 := Ex.laid (o := .tup [.int (widthB (cellsB rows q.1 q.2.1 q.2.2) gap least), .bl (rightB (cellsB rows q.1 q.2.1 q.2.2))]) x4.tab nt0
          have lt0 : l ≠ t0 := ne_of_none u1 nt0
          have u1' := x5.lst u1
          refine ⟨_, rfl, ex_new hT1 (x4.trans x5) hln, by rw [upd_ne hlD.symm]; exact x5.lst hD4, fun i m h => ?_⟩
          by_cases e : i = q.2.1 + k
          · subst e
            rw [hl1] at h
            cases h
            rw [if_pos (by omega)]
            refine ⟨us ++ [t0], by rw [upd_same, List.map_append]; rfl, by rw [List.length_append, u2]; rfl, fun c t h => ?_⟩
            by_cases hc : c < us.length
            · rw [List.getElem?_append_left hc] at h
              have := x5.tup (u3 c t h)
              rw [upd_ne (ne_of this u1' (by intro z; cases z))]
              exact this
            · have hl := (List.getElem?_eq_some_iff.mp h).1
              rw [List.length_append, List.length_singleton] at hl
              have ec : c = us.length := by omega
              subst ec
              rw [List.getElem?_append_right (Nat.le_refl _), Nat.sub_self] at h
              cases h
              rw [upd_ne lt0.symm, upd_same, u2]
              have e1 : q.1 = cntB rows j (q.2.1 + k) := congrArg (fun z : Nat × Nat × Nat => z.1) v2
              have e2 : q.2.1 = loB rows (cntB rows j (q.2.1 + k)) (q.2.1 + k) := congrArg (fun z : Nat × Nat × Nat => z.2.1) v2
              have e3 : q.2.2 = hiB rows (cntB rows j (q.2.1 + k)) (q.2.1 + k) := congrArg (fun z : Nat × Nat × Nat => z.2.2) v2
              unfold wB rB
              rw [← e2, ← e3, ← e1]
          · have hne := hnd _ _ _ _ h hl1 e
            have hm := (hC4 i m h).ext x5.ext
            have ee : (if q.2.1 ≤ i ∧ i < q.2.1 + (k + 1) then 1 else 0) = (if q.2.1 ≤ i ∧ i < q.2.1 + k then 1 else 0) := by
              by_cases z : q.2.1 ≤ i ∧ i < q.2.1 + k
              · rw [if_pos z, if_pos (by omega)]
              · rw [if_neg z, if_neg (by omega)]
            rw [ee]
            exact hm.upd u1' hne
        · rintro σ H4 ⟨c10, rfl, x4, hD4, hC4⟩
          refine ⟨_, _, _, _, _, _, _, rfl, x4, hD4, fun i l h => ?_⟩
          have := hC4 i l h
          by_cases z : q.2.1 ≤ i ∧ i < q.2.2
          · rw [if_pos (by omega)] at this
            rw [(cnt_yes hO hq (decide_eq_true z)).1]
            exact this
          · rw [if_neg (by omega)] at this
            rw [cnt_no hq (decide_eq_false z)]
            exact this
      · rintro σ H3 ⟨c4, c5, c6, c7, c8, c9, c10, rfl, x3, hD3, hC⟩
        refine ⟨_, rfl, k D ls H3 (x1.trans x3) (x1.old _ nD) (fun l h => x1.old _ (hf l h).1) hD3 hl fun i l h => ?_⟩
        have := hC i l h
        rw [List.length_map, ds.len, cnt_all hO] at this
        exact this
end
end TG
namespace TG
open PySem L2 Gx
theorem at_last {α : Type} {xs : List α} {x : α} : atI (xs ++ [x]) (-1) = some x := by
  unfold atI ixN
  rw [if_neg (by omega), List.length_append, List.length_singleton, if_pos (by omega)]
  show (xs ++ [x])[((-1 : Int) + ((xs.length + 1 : Nat) : Int)).toNat]? = some x
  rw [show ((-1 : Int) + ((xs.length + 1 : Nat) : Int)).toNat = xs.length by omega, List.getElem?_append_right (Nat.le_refl _), Nat.sub_self]
  rfl
theorem lefts_last (rows : List (List Str)) (gap least : Int) (i : Nat) : ∀ n, ∃ xs, leftsB rows gap least i n = xs ++ [leftB rows gap least i n]
  | 0 => ⟨[], rfl⟩
  | n + 1 => ⟨leftsB rows gap least i n, lefts_snoc rows gap least i n⟩
theorem lefts_at (rows : List (List Str)) (gap least : Int) (i n : Nat) : atI ((leftsB rows gap least i n).map V.int) (-1) = some (V.int (leftB rows gap least i n)) := by
  obtain ⟨xs, e⟩ := lefts_last rows gap least i n
  rw [e, List.map_append]
  exact at_last
theorem tabs_ext {cs : List (Addr × Addr)} {H H' : Hp} (t : Tabs cs H) (x : Same H H') : Tabs cs H' := fun p hp => let ⟨ps, h1, h2⟩ := t p hp; ⟨ps, x _ _ h1, h2⟩
theorem same_ext {H H' : Hp} (x : Same H H') : LamX.ExtN H H' := fun b o e _ => x b o e
theorem ex_same {cs : List (Addr × Addr)} {H H' : Hp} (t : Tabs cs H) (x : Same H H') : Ex cs H H' := ⟨same_ext x, tabs_ext t x, fun _ n => same_old x n, fun b o e _ => x b o e⟩
theorem ToldAt.add {H H' : Hp} {r : Addr} {es : List Addr} {f : Nat → List Int} {n : Nat} {e : Addr} (t : ToldAt H r es f n) (x : LamX.ExtN H H') (he : H e = none) (h' : H' e = some (.lst ((f n).map V.int))) (hr : r ∉ es) :
    ToldAt (upd H' r (.lst (es.map V.ref ++ [.ref e]))) r (es ++ [e]) f (n + 1) := by
  refine ⟨by rw [upd_same, List.map_append]; rfl, by rw [List.length_append, t.len]; rfl, ?_, fun i u h => ?_⟩
  · refine List.nodup_append.mpr ⟨t.nd, by simp, fun u hu v hv q => ?_⟩
    rw [List.mem_singleton.mp hv] at q
    obtain ⟨i, hi, e1⟩ := List.getElem_of_mem hu
    have := t.at_ i u (by rw [List.getElem?_eq_getElem hi, e1])
    rw [q, he] at this
    cases this
  · have re : e ≠ r := fun z => by rw [z, t.lst] at he; cases he
    by_cases hi : i < es.length
    · rw [List.getElem?_append_left hi] at h
      rw [upd_ne (fun z => hr (by rw [← z]; exact List.mem_of_getElem? h))]
      exact x _ _ (t.at_ i u h) (by intro ps z; cases z)
    · have hl := (List.getElem?_eq_some_iff.mp h).1
      rw [List.length_append, List.length_singleton] at hl
      have e1 : i = es.length := by omega
      subst e1
      rw [List.getElem?_append_right (Nat.le_refl _), Nat.sub_self] at h
      cases h
      rw [upd_ne re, h', t.len]
section
variable {P : Program} {w : World} {K : PySem.W.Frag} {mg : Str → Option Value} {base : Heap} {cs : List (Addr × Addr)}
def spLE : Sp := fun vs H Q _ => ∃ (l : Addr) (rows : List (List Str)) (gap least : Int) (i n : Nat), vs = [.ref l] ∧ CellsAt H rows gap least i n l ∧ n ≤ 5 ∧
  ∀ (p : Addr) (H' : Hp), Same H H' → H p = none → H' p = some (.lst ((leftsB rows gap least i n).map V.int)) → Q (.ref p) H'
abbrev nmLE : List Str := ["closed", "ends", "width", "right"]
theorem sc_le : FnScope nmLE ["closed"] (defScope s_left_ends) := ⟨rfl, rfl, rfl, by decide +kernel, rfl, by decide +kernel, by decide +kernel⟩
theorem ok_le {f : Addr} {fd : FuncData} (F : Fun K "left_ends" "left_ends" s_left_ends f fd) : FnOk P w K mg base CX0 1 f fd ["closed"] spLE := by
  refine F.ok sc_le (fun vs H Q E h => ?_) (fun cdv A outer s H vs Q E hr h => ?_)
  · obtain ⟨l, rows, gap, least, i, n, rfl, _⟩ := h
    rfl
  · obtain ⟨l, rows, gap, least, i, n, rfl, ⟨ts, h1, h2, h3⟩, n5, k⟩ := h
    have nd := sc_le.nd
    refine ⟨_, pss_cons (ps_set (i := 1) nd rfl (.inl rfl) (pe_lst (pa_cons pe_int pa_nil)))
      (pss_cons (ps_for PassesOwn.never rfl (pi_list (pv 0)) (pg_tup rfl (pgs_cons (pg_name (i := 2) nd rfl (.inl rfl)) (pgs_cons (pg_name (i := 3) nd rfl (.inl rfl)) pgs_nil)))
        (pss_one (ps_expr (pe_bm PySem.F.plainAttrs_list PySem.F.slot_list_append PySem.F.type_list_append mt_append (pv 1) (pa_cons (pe_op op_add (pe_ix ix_list (pv 1) (pe_un un_neg pe_int) (fun _ _ => rfl)) (pv 2)) pa_nil)))))
      (pss_one (ps_ret (pv 1)))), ?_⟩
    have szl : (1000 : Nat) < sizeLine := by decide
    refine ⟨line10 (by show 1 ≤ 1000; decide), fun p np => ⟨_, rfl, l, rfl, ⟨_, SqL.of (by rw [upd_ne (ne_of_none h1 np)]; exact h1)⟩, for_list (xs := ts.map V.ref) (fun j σ H' => ∃ c2 c3 : Option V, σ = [some (.ref l), some (.ref p), c2, c3] ∧ Same H H' ∧ H' p = some (.lst ((leftsB rows gap least i j).map V.int)))
      ⟨_, _, rfl, same_new np, upd_same⟩ (fun j σ H' _ ⟨_, _, _, x, _⟩ => SqL.of (x _ _ h1)) ?_ ?_⟩⟩
    · rintro j v σ H1 hv ⟨c2, c3, rfl, x1, hp⟩
      obtain ⟨t, ht, rfl⟩ := get_map hv
      have hj := (List.getElem?_eq_some_iff.mp ht).1
      refine ⟨t, _, rfl, .inl (.inl (x1 _ _ (h3 j t ht))), rfl, _, _, rfl, _, _, rfl, rfl, ?_⟩
      refine ⟨_, rfl, .inl ⟨rfl, _, SqL.of hp⟩, _, rfl, 1, rfl, p, _, -1, _, rfl, rfl, SqL.of hp, lefts_at .., _, rfl, _, _, rfl, rfl, p, _, _, rfl, rfl, hp, by rw [List.length_map, lefts_len]; omega, ⟨_, _, rfl, same_upd x1 np, ?_⟩⟩
      rw [upd_same, lefts_snoc, List.map_append]
      rfl
    · rintro σ H1 ⟨c2, c3, rfl, x1, hp⟩
      rw [List.length_map, h2] at hp
      exact ⟨_, rfl, k p H1 x1 np hp⟩
/-- a list of lists of numbers, a row each -/
def spTold (K : PySem.W.Frag) (cs : List (Addr × Addr)) (f : List (List Str) → Int → Int → Nat → List Int) : Sp := fun vs H Q _ => ∃ (a st : Addr) (as : List Addr) (rows : List (List Str)) (gap least : Int), vs = [.ref a, .ref st] ∧ Tabs cs H ∧ PageAt K H a as rows ∧ PgOk rows ∧ StyleAt K H st gap least ∧
  ∀ (r : Addr) (es : List Addr) (H' : Hp), Ex cs H H' → H r = none → (∀ e ∈ es, H e = none ∧ e ≠ r) → ToldAt H' r es (f rows gap least) rows.length → Q (.ref r) H'
abbrev nmStops : List Str := ["page", "style", "closed"]
theorem sc_stops : FnScope nmStops ["page", "style"] (defScope s_stops) := ⟨rfl, rfl, rfl, by decide +kernel, rfl, by decide +kernel, by decide +kernel⟩
end
end TG
namespace TG
open PySem L2 Gx
def lenC (rows : List (List Str)) (i c : Nat) : Int := (((rows.getD i []).getD c nilS).length : Nat)
/-- the begins of row i when the first j closed cells have been looked at -/
def begC (rows : List (List Str)) (gap least : Int) (i j c : Nat) : Int := if c < j ∧ rB rows i c = true then leftB rows gap least i (c + 1) - gap - lenC rows i c else leftB rows gap least i c
def begsTo (rows : List (List Str)) (gap least : Int) (i j : Nat) : List Int := (List.range (ncl rows i + 1)).map (begC rows gap least i j)
def begsR (rows : List (List Str)) (gap least : Int) (i : Nat) : List Int := begsTo rows gap least i (ncl rows i)
theorem begs_zero (rows : List (List Str)) (gap least : Int) (i : Nat) : begsTo rows gap least i 0 = leftsB rows gap least i (ncl rows i) := by
  unfold begsTo leftsB
  refine List.map_congr_left fun c _ => ?_
  unfold begC
  rw [if_neg (by omega)]
theorem begs_len (rows : List (List Str)) (gap least : Int) (i j : Nat) : (begsTo rows gap least i j).length = ncl rows i + 1 := by
  unfold begsTo
  rw [List.length_map, List.length_range]
theorem begs_no {rows : List (List Str)} {gap least : Int} {i j : Nat} (h : rB rows i j = false) : begsTo rows gap least i (j + 1) = begsTo rows gap least i j := by
  unfold begsTo
  refine List.map_congr_left fun c _ => ?_
  unfold begC
  by_cases e : c = j
  · subst e
    rw [if_neg (fun z => by rw [h] at z; cases z.2), if_neg (by omega)]
  · by_cases q : c < j ∧ rB rows i c = true
    · rw [if_pos q, if_pos ⟨by omega, q.2⟩]
    · rw [if_neg q, if_neg (fun z => q ⟨by omega, z.2⟩)]
theorem begs_yes {rows : List (List Str)} {gap least : Int} {i j : Nat} (hj : j < ncl rows i) (h : rB rows i j = true) : (begsTo rows gap least i j).set j (leftB rows gap least i (j + 1) - gap - lenC rows i j) = begsTo rows gap least i (j + 1) := by
  apply List.ext_getElem?
  intro c
  rw [List.getElem?_set]
  have e1 : ∀ j, (begsTo rows gap least i j)[c]? = if c < ncl rows i + 1 then some (begC rows gap least i j c) else none := fun j => by
    unfold begsTo
    rw [List.getElem?_map]
    by_cases q : c < ncl rows i + 1
    · rw [List.getElem?_range q, if_pos q]; rfl
    · rw [List.getElem?_eq_none (by rw [List.length_range]; omega), if_neg q]; rfl
  by_cases e : j = c
  · subst e
    rw [if_pos rfl, if_pos (by rw [begs_len]; omega), e1, if_pos (by omega)]
    unfold begC
    rw [if_pos ⟨Nat.lt_succ_self _, h⟩]
  · rw [if_neg e, e1, e1]
    have : begC rows gap least i (j + 1) c = begC rows gap least i j c := by
      unfold begC
      by_cases q : c < j ∧ rB rows i c = true
      · rw [if_pos q, if_pos ⟨by omega, q.2⟩]
      · rw [if_neg q, if_neg (fun z => q ⟨by omega, z.2⟩)]
    rw [this]
theorem set_map {α β : Type} {f : α → β} {xs : List α} {i : Nat} {x : α} : (xs.map f).set i (f x) = (xs.set i x).map f := by
  rw [List.map_set]
section
variable {P : Program} {w : World} {K : PySem.W.Frag} {mg : Str → Option Value} {base : Heap} {cs : List (Addr × Addr)}
def spBO (K : PySem.W.Frag) : Sp := fun vs H Q _ => ∃ (a l : Addr) (rows : List (List Str)) (gap least : Int) (i : Nat) (r : List Str), vs = [.ref a, .ref l, .int gap] ∧ rows[i]? = some r ∧ PgOk rows ∧ SqT K H a (sV r) ∧ CellsAt H rows gap least i (ncl rows i) l ∧
  ∀ (p : Addr) (H' : Hp), Same H H' → H p = none → H' p = some (.lst ((begsR rows gap least i).map V.int)) → Q (.ref p) H'
abbrev nmBO : List Str := ["row", "closed", "gap", "ends", "begins", "number", "width", "right"]
theorem sc_bo : FnScope nmBO ["row", "closed", "gap"] (defScope s_begins_of) := ⟨rfl, rfl, rfl, by decide +kernel, rfl, by decide +kernel, by decide +kernel⟩
theorem ok_bo {f g : Addr} {fd fdg : FuncData} (T : Txt mg) (F : Fun K "begins_of" "begins_of" s_begins_of f fd)
    (G : FnOk P w K mg base CX0 1 g fdg ["closed"] spLE) (kp : PySem.W.keepIn K (.ref g) = true) (bd : Binds K fdg ["closed"] []) (mgg : mg "left_ends" = some (.ref g)) : FnOk P w K mg base CX0 2 f fd ["row", "closed", "gap"] (spBO K) := by
  refine F.ok sc_bo (fun vs H Q E h => ?_) (fun cdv A outer s H vs Q E hr h => ?_)
  · obtain ⟨a, l, rows, gap, least, i, r, rfl, _⟩ := h
    rfl
  · obtain ⟨a, l, rows, gap, least, i, r, rfl, hr2, hO, hA, hC, k⟩ := h
    have nd := sc_bo.nd
    refine ⟨_, pss_cons (ps_set (i := 3) nd rfl (.inl rfl) (pe_call G hr (by rfl) mgg kp bd .nil pass0 (pa_cons (pv 1) pa_nil)))
      (pss_cons (ps_set (i := 4) nd rfl (.inl rfl) (pe_callTy call_list_of (by rfl) T.list (by decide +kernel) (pa_cons (pv 3) pa_nil)))
      (pss_cons (ps_for PassesOwn.never rfl (pi_enum (by rfl) T.enum (pa_cons (pv 1) pa_nil)) (pg_tup rfl (pgs_cons (pg_name (i := 5) nd rfl (.inl rfl)) (pgs_cons (pg_tup rfl (pgs_cons (pg_name (i := 6) nd rfl (.inl rfl)) (pgs_cons (pg_name (i := 7) nd rfl (.inl rfl)) pgs_nil))) pgs_nil)))
        (pss_one (ps_if (pt_val (pv 7)) (pss_one (ps_asg (pe_op op_sub (pe_op op_sub (pe_ix ix_list (pv 3) (pe_op op_add (pv 5) pe_int) (fun _ _ => rfl)) (pv 2)) (pe_callB call_len_str (by rfl) T.len PySem.boot_len (pa_cons (pe_ix ix_tup (pv 0) (pv 5) (fun _ _ => rfl)) pa_nil))) (pg_sub (pv 4) (pv 5) set_list))) pss_nil)))
      (pss_one (ps_ret (pv 4))))), ?_⟩
    have szl : (1000 : Nat) < sizeLine := by decide
    have n5 := ncl_le hO i
    have hrO := hO.rows r (List.mem_of_getElem? hr2)
    have hnc : ncl rows i = r.length - 1 := by unfold ncl; rw [hr2]
    refine ⟨_, rfl, l, rows, gap, least, i, ncl rows i, rfl, hC, n5, fun e H1 x1 ne he => ⟨_, rfl, e, _, rfl, .inl (SqL.of he), fun b nb => ?_⟩⟩
    obtain ⟨ts, h1, h2, h3⟩ := hC
    have x2 : Same H (upd H1 b (.lst ((leftsB rows gap least i (ncl rows i)).map V.int))) := same_trans x1 (same_new nb)
    have eb : e ≠ b := ne_of_none he nb
    have nb0 := same_old x1 nb
    refine ⟨_, rfl, l, _, rfl, SqL.of (x2 _ _ h1), for_it (walk_enum (xs := ts.map V.ref)) (fun j σ H' => ∃ c5 c6 c7 : Option V, σ = [some (.ref a), some (.ref l), some (.int gap), some (.ref e), some (.ref b), c5, c6, c7] ∧ Same H H' ∧ H' e = some (.lst ((leftsB rows gap least i (ncl rows i)).map V.int)) ∧ H' b = some (.lst ((begsTo rows gap least i j).map V.int)))
      ⟨_, _, _, rfl, x2, by rw [upd_ne eb]; exact he, by rw [upd_same, begs_zero]⟩ (fun j σ H' _ ⟨_, _, _, _, x, _⟩ => SqL.of (x _ _ h1)) ?_ ?_⟩
    · rintro j x σ H3 H4 hi ⟨c5, c6, c7, rfl, x3, he3, hb3⟩ ⟨Tp, v, u, rfl, hn, rfl, hv, hu⟩
      cases hv
      obtain ⟨t, ht, rfl⟩ := get_map hu
      have hj := (List.getElem?_eq_some_iff.mp ht).1
      have x4 : Same H3 (upd H3 Tp (.tup [.int (j : Nat), .ref t])) := same_new hn
      generalize hH4 : upd H3 Tp (.tup [.int (j : Nat), .ref t]) = H4 at x4 ⊢
      have hTp : H4 Tp = some (.tup [.int (j : Nat), .ref t]) := by rw [← hH4, upd_same]
      have x34 := same_trans x3 x4
      have he4 := x4 _ _ he3
      have hb4 := x4 _ _ hb3
      refine ⟨Tp, _, rfl, .inl (.inl hTp), rfl, _, _, rfl, _, _, rfl, t, _, rfl, .inl (.inl (x34 _ _ (h3 j t ht))), rfl, _, _, rfl, _, _, rfl, rfl, rfl, ?_⟩
      refine ⟨_, rfl, rB rows i j, rfl, ?_⟩
      cases hrb : rB rows i j with
      | false => exact iteF ⟨_, _, _, rfl, x34, he4, by rw [begs_no hrb]; exact hb4⟩
      | true =>
        have hjr : j < r.length := by omega
        have ec : lenC rows i j = (((r[j]'hjr).length : Nat) : Int) := by
          unfold lenC
          rw [show rows.getD i [] = r by rw [List.getD_eq_getElem?_getD, hr2]; rfl, List.getD_eq_getElem?_getD, List.getElem?_eq_getElem hjr]
          rfl
        have zl := (hrO.cells _ (List.getElem_mem hjr)).len
        refine iteT ⟨_, rfl, _, rfl, j, 1, rfl, rfl, e, _, ((j + 1 : Nat) : Int), _, rfl, rfl, SqL.of he4, atI_nat (by rw [List.getElem?_map, lefts_get (by omega)]; rfl), _, rfl, _, _, rfl, rfl, _, rfl, _, rfl, a, _, j, _, rfl, rfl, same_sqT x34 hA, atI_nat (by rw [List.getElem?_map, List.getElem?_eq_getElem hjr]; rfl), _, rfl, line10 (by omega), _, _, rfl, rfl, _, rfl, _, rfl, b, _, j, j, rfl, rfl, hb4, ?_, ⟨_, _, _, rfl, same_upd x34 nb0, by rw [upd_ne eb]; exact he4, ?_⟩⟩
        · rw [List.length_map, begs_len]
          unfold ixN
          rw [if_pos (by omega), if_pos (by omega)]
          rfl
        · rw [upd_same, set_map, ← ec, begs_yes (by omega) hrb]
    · rintro σ H3 ⟨c5, c6, c7, rfl, x3, he3, hb3⟩
      rw [List.length_map, h2] at hb3
      exact ⟨_, rfl, k b H3 x3 nb0 hb3⟩
end
end TG
namespace TG
open PySem L2 Gx
section
variable {P : Program} {w : World} {K : PySem.W.Frag} {mg : Str → Option Value} {base : Heap} {cs : List (Addr × Addr)}
abbrev nmLaid : List Str := ["page", "style", "rows", "gap", "row", "closed"]
theorem sc_laid : FnScope nmLaid ["page", "style"] (defScope s_laid) := ⟨rfl, rfl, rfl, by decide +kernel, rfl, by decide +kernel, by decide +kernel⟩
theorem ok_laid {f g g2 : Addr} {fd fdg fd2 : FuncData} (hz : mg "zip" = none) (F : Fun K "laid" "laid" s_laid f fd)
    (G : FnOk P w K mg base CX0 13 g fdg ["page", "style"] (spCC K cs)) (kp : PySem.W.keepIn K (.ref g) = true) (bd : Binds K fdg ["page", "style"] []) (mgg : mg "closed_cells" = some (.ref g))
    (G2 : FnOk P w K mg base CX0 2 g2 fd2 ["row", "closed", "gap"] (spBO K)) (kp2 : PySem.W.keepIn K (.ref g2) = true) (bd2 : Binds K fd2 ["row", "closed", "gap"] []) (mg2 : mg "begins_of" = some (.ref g2)) : FnOk P w K mg base CX0 14 f fd ["page", "style"] (spTold K cs begsR) := by
  refine F.ok sc_laid (fun vs H Q E h => ?_) (fun cdv A outer s H vs Q E hr h => ?_)
  · obtain ⟨a, st, as, rows, gap, least, rfl, _⟩ := h
    rfl
  · obtain ⟨a, st, as, rows, gap, least, rfl, hT, hP, hO, hS, k⟩ := h
    have nd := sc_laid.nd
    have hr2 : Room 2 _ := hr.mono (by decide)
    refine ⟨_, pss_cons (ps_set (i := 2) nd rfl (.inl rfl) (pe_call G hr (by rfl) mgg kp bd .nil pass0 (pa_cons (pv 0) (pa_cons (pv 1) pa_nil))))
      (pss_cons (ps_set (i := 3) nd rfl (.inr rfl) (pe_ix ix_tup (pv 1) pe_int (fun _ _ => rfl)))
      (pss_one (ps_ret (pe_lc (own := [("row", 4), ("closed", 5)]) (g := gTup K 2 (gCons (gName 4) (gCons (gName 5) gNil))) (tt := tYes) rfl nd (pi_zip (by rfl) hz (pa_cons (pv 0) (pa_cons (pv 2) pa_nil))) (blkOk_by (own := [("row", 4), ("closed", 5)]) (N := nmLaid) (sc := defScope s_laid) (by decide +kernel))
        (fun _ _ _ _ _ => pg_tup rfl (pgs_cons (pg_name (i := 4) nd rfl (.inl rfl) (.inr rfl)) (pgs_cons (pg_name (i := 5) nd rfl (.inl rfl) (.inr rfl)) pgs_nil))) (fun _ _ _ _ _ => pts_nil) (fun s1 H1 C1 cl1 fp1 => pe_call G2 hr2 (by rfl) mg2 kp2 bd2 .nil pass0 (pa_cons (pv 4) (pa_cons (pv 5) (pa_cons (pv 3) pa_nil)))))))), ?_⟩
    have ll := hO.len
    have szl : (1000 : Nat) < sizeLine := by decide
    refine ⟨_, rfl, _, rfl, a, st, as, rows, gap, least, rfl, hT, hP, hO, hS, fun r ls H1 x1 nr nls hr1 hll hC => ⟨_, rfl, st, _, 0, .int gap, rfl, rfl, x1.sqT hS.tup, at0, _, rfl, _, rfl, a, r, _, _, rfl, x1.sqL hP.lst, SqL.of hr1, fun D nD => lc_it (walk_zip (xs := as.map V.ref) (ys := ls.map V.ref) (n := rows.length) (by rw [List.length_map, List.length_map, hP.len, hll, Nat.min_self])) (fun i H' => ∃ es : List Addr, Ex cs H1 H' ∧ ToldAt H' D es (begsR rows gap least) i ∧ ∀ e ∈ es, H1 e = none ∧ e ≠ D)
      ⟨[], Ex.laid x1.tab nD, ⟨upd_same, rfl, List.nodup_nil, fun i e h => by simp at h⟩, fun e h => by simp at h⟩ (fun i H' _ ⟨es, x, _⟩ => ⟨x.sqL (x1.sqL hP.lst), SqL.of (x.lst hr1)⟩) ?_ ?_⟩⟩
    · rintro i v H2 H3 hi ⟨es, x2, t2, f2⟩ ⟨Tp, v1, u, rfl, hn, rfl, hv, hu⟩
      obtain ⟨p, hp, rfl⟩ := get_map hv
      obtain ⟨l, hl, rfl⟩ := get_map hu
      obtain ⟨z, hz2⟩ := getP (xs := rows) (i := i) hi
      have x3 := Ex.laid (o := .tup [.ref p, .ref l]) x2.tab hn
      generalize hH : upd H2 Tp (.tup [.ref p, .ref l]) = H3 at x3 ⊢
      have hTp : H3 Tp = some (.tup [.ref p, .ref l]) := by rw [← hH, upd_same]
      have x23 := x2.trans x3
      refine ⟨Tp, _, rfl, .inl (.inl hTp), rfl, _, _, rfl, _, _, rfl, rfl, rfl, _, rfl, _, rfl, _, rfl, p, l, rows, gap, least, i, z, rfl, hz2, hO, (x1.trans x23).sqT (hP.row i p z hp hz2), (hC i l hl).ext x23.ext, fun q H4 x4 nq hq => ?_⟩
      have t3 := t2.ext x3.ext
      have qD : q ≠ D := fun z => by rw [z, x4 _ _ t3.lst] at hq; have := x4 _ _ t3.lst; rw [← z] at this; rw [z, t3.lst] at nq; cases nq
      refine ⟨_, x4 _ _ t3.lst, by rw [List.length_map, t3.len]; omega, es ++ [q], ex_new x1.tab (x23.trans (ex_same x3.tab x4)) nD, t3.add (same_ext x4) nq hq (fun z => (f2 D z).2 rfl), fun e h => ?_⟩
      rcases List.mem_append.mp h with z | z
      · exact f2 e z
      · rw [List.mem_singleton.mp z]
        exact ⟨x23.old _ nq, qD⟩
    · rintro H2 ⟨es, x2, t2, f2⟩
      exact k D es H2 (x1.trans x2) (x1.old _ nD) (fun e h => ⟨x1.old _ (f2 e h).1, (f2 e h).2⟩) t2
end
end TG
namespace TG
open PySem L2 Gx
theorem ToldAt.go {H H' : Hp} {r : Addr} {es : List Addr} {f : Nat → List Int} {n : Nat} (t : ToldAt H r es f n) (x : Same H H') : ToldAt H' r es f n := t.ext (same_ext x)
section
variable {P : Program} {w : World} {K : PySem.W.Frag} {mg : Str → Option Value} {base : Heap} {cs : List (Addr × Addr)}
end
end TG
namespace TG
open PySem L2 Gx
theorem ToldAt.congr {H : Hp} {r : Addr} {es : List Addr} {f g : Nat → List Int} {n : Nat} (t : ToldAt H r es f n) (e : ∀ i, i < n → f i = g i) : ToldAt H r es g n :=
  ⟨t.lst, t.len, t.nd, fun i u h => by rw [← e i (by rw [← t.len]; exact (List.getElem?_eq_some_iff.mp h).1)]; exact t.at_ i u h⟩
theorem ToldAt.put {H : Hp} {r : Addr} {es : List Addr} {f : Nat → List Int} {n i : Nat} {e : Addr} {xs : List Int} (t : ToldAt H r es f n) (he : es[i]? = some e) (ne : e ≠ r) : ToldAt (upd H e (.lst (xs.map V.int))) r es (fun k => if k = i then xs else f k) n := by
  refine ⟨by rw [upd_ne ne.symm]; exact t.lst, t.len, t.nd, fun k u h => ?_⟩
  by_cases q : k = i
  · subst q
    rw [he] at h
    cases h
    rw [upd_same, if_pos rfl]
  · rw [if_neg q, upd_ne (fun z => q (nd_ix t.nd h (by rw [z]; exact he)))]
    exact t.at_ k u h
section
variable {P : Program} {w : World} {K : PySem.W.Frag} {mg : Str → Option Value} {base : Heap} {cs : List (Addr × Addr)}
end
end TG
namespace TG
open PySem L2 Gx
theorem tabs_kb {cs : List (Addr × Addr)} {b l : Addr} {H H' : Hp} (t : Tabs cs H) (B : BoxAt H b l) (x : KB b l H H') : Tabs cs H' := fun p hp => by
  obtain ⟨ps, h1, h2⟩ := t p hp
  obtain ⟨ns, st, e1, e2, _⟩ := B
  exact ⟨ps, x _ _ h1 (ne_of h1 e1 (by intro z; cases z)) (ne_of h1 e2 (by intro z; cases z)), h2⟩
end TG
namespace Zm
open PySem PySem.Spec PyProof.Rows L2
/-- the iterator at i over what stands at l gives x next: B is known of it before, C behind -/
structure Gives (i l : Addr) (B C : Heap → Prop) (x : Value) : Prop where
  pull : ∀ {P : Program} {w : World} {A : Around} {E : Value → Shared → Prop} {s : Shared} {Q : Value → Shared → Prop}, B s.heap → (∀ g, C g → Heap.SameBut i s.heap g → Q x { s with heap := g }) → wpAny (model P w) A (Builtin.SmallTypes.nextOf (.ref i)) Q E s
  before : ∀ h g, B h → (∀ c o, c = i ∨ c = l → h.get? c = some o → g.get? c = some o) → B g
  behind : ∀ h g, C h → (∀ o, h.get? i = some o → g.get? i = some o) → C g
theorem gives_list {i l : Addr} {k : Nat} {xs : Array Value} {x : Value} (hx : xs[k]? = some x) : Gives i l (fun h => h.IsListIter i l k ∧ h.IsList l xs) (fun h => h.IsListIter i l (k + 1)) x :=
  ⟨fun b h => wpAny_nextOf_list_item b.1 b.2 hx fun g a sm => h g a sm, fun _ _ b k => ⟨b.1.at fun o e => k _ o (.inl rfl) e, b.2.at fun o e => k _ o (.inr rfl) e⟩, fun _ _ c k => c.at k⟩
theorem gives_tup {i l : Addr} {k : Nat} {xs : Array Value} {x : Value} (hx : xs[k]? = some x) : Gives i l (fun h => h.IsTupleIter i l k ∧ h.IsTuple l xs) (fun h => h.IsTupleIter i l (k + 1)) x :=
  ⟨fun b h => RZ.nextOf_tuple_item b.1 b.2 hx fun g a sm => h g a sm, fun _ _ b k => ⟨b.1.at fun o e => k _ o (.inl rfl) e, by
    obtain ⟨o, ho, r⟩ := b.2
    exact ⟨o, k _ o (.inr rfl) ho, r⟩⟩, fun _ _ c k => c.at k⟩
section
variable {P : Program} {w : World} {A : Around} {E : Value → Shared → Prop} {s : Shared} {z TI TO i1 i2 l1 l2 : Addr}
theorem two_give {B1 C1 B2 C2 : Heap → Prop} {x y u v : Value} {Q : Value → Shared → Prop} (D : ZipApart z TI TO i1 i2 l1 l2) (S1 : Gives i1 l1 B1 C1 x) (S2 : Gives i2 l2 B2 C2 y)
    (hz : IsZip s.heap z TI TO .none) (hI : IsPair s.heap TI (.ref i1) (.ref i2)) (hO : IsPair s.heap TO u v) (b1 : B1 s.heap) (b2 : B2 s.heap) (e1 : ∃ o, s.heap.get? i1 = some o) (e2 : ∃ o, s.heap.get? i2 = some o)
    (k : ∀ g, IsZip g z TI TO (rawInt s.heap.objs.size) → IsPair g TO x y → C1 g → C2 g → IsPair g s.heap.objs.size x y → (∀ c o, c ≠ z → c ≠ TO → c ≠ i1 → c ≠ i2 → s.heap.get? c = some o → g.get? c = some o) → Q (.ref s.heap.objs.size) { s with heap := g }) :
    wpAny (model P w) A (Builtin.«zip.__next__» ⟨[.ref z], []⟩) (fun r t => ∃ v, r = .done (.ret v) ∧ Q v t) E s := by
  show wpAny _ _ (field (.ref z) 2 >>= fun _ => _) _ _ _
  refine wpAny_bind (wpAny_field hz rfl (x := Value.bool false) rfl ?_)
  show wpAny _ _ (field (.ref z) 3 >>= fun _ => _) _ _ _
  refine wpAny_bind (wpAny_field hz rfl (x := Value.ref TI) rfl (wpAny_bind (wpAny_seqItems hI rfl ?_)))
  show wpAny _ _ (Builtin.SmallTypes.ownedTupleIsFree (.ref z) >>= fun _ => _) _ _ _
  refine wpAny_bind ?_
  unfold Builtin.SmallTypes.ownedTupleIsFree
  refine wpAny_bind (wpAny_field hz rfl (x := Value.none) rfl (wpAny_pure ?_))
  simp only [if_true]
  refine wpAny_bind (wpAny_rule (wpAny_bind (wpAny_field hz rfl (x := Value.ref TO) rfl (wpAny_bind (wpAny_setField_rec hz (by simp) fun g1 z1 s1 => ?_)))))
  have z1 : IsZip g1 z TI TO Value.ellipsis := z1
  refine wpAny_bind ?_
  simp only [List.zipIdx_cons, List.zipIdx_nil, List.forIn_cons, List.forIn_nil]
  have q1 : B1 g1 := S1.before _ _ b1 fun c o m e => s1.extBut _ _ (by rcases m with m | m; (rw [m]; exact D.i1z); (rw [m]; exact D.l1z)) e
  have q2 : B2 g1 := S2.before _ _ b2 fun c o m e => s1.extBut _ _ (by rcases m with m | m; (rw [m]; exact D.i2z); (rw [m]; exact D.l2z)) e
  have o1 : IsPair g1 TO u v := s1.extBut _ _ D.TOz hO
  refine wpAny_bind (wpAny_bind (wpAny_onRaise ?_))
  show wpAny _ _ (Builtin.SmallTypes.nextOf (.ref i1) >>= fun _ => _) _ _ _
  refine wpAny_bind (S1.pull q1 fun g2 c2 s2 => wpAny_pure ?_)
  have o2 : IsPair g2 TO u v := s2.extBut _ _ D.TOi1 o1
  have q2 : B2 g2 := S2.before _ _ q2 fun c o m e => s2.extBut _ _ (by rcases m with m | m; (rw [m]; exact D.i12.symm); (rw [m]; exact D.l2i1)) e
  refine wpAny_bind (wpAny_seqItems o2 rfl (wpAny_bind (wpAny_updateSeq_pair o2 fun g3 o3 s3 => ?_)))
  have o3 : IsPair g3 TO x v := o3
  have q2 : B2 g3 := S2.before _ _ q2 fun c o m e => s3.extBut _ _ (by rcases m with m | m; (rw [m]; exact D.TOi2.symm); (rw [m]; exact D.l2TO)) e
  have c3 : C1 g3 := S1.behind _ _ c2 fun o e => s3.extBut _ _ D.TOi1.symm e
  refine wpAny_bind (wpAny_letGo (wpAny_pure (wpAny_bind (wpAny_bind (wpAny_onRaise ?_)))))
  show wpAny _ _ (Builtin.SmallTypes.nextOf (.ref i2) >>= fun _ => _) _ _ _
  refine wpAny_bind (S2.pull q2 fun g4 c4 s4 => wpAny_pure ?_)
  have o4 : IsPair g4 TO x v := s4.extBut _ _ D.TOi2 o3
  refine wpAny_bind (wpAny_seqItems o4 rfl (wpAny_bind (wpAny_updateSeq_pair o4 fun g5 o5 s5 => ?_)))
  have o5 : IsPair g5 TO x y := o5
  refine wpAny_bind (wpAny_letGo (wpAny_pure (wpAny_pure (wpAny_bind (wpAny_seqItems o5 rfl (wpAny_bind (wpAny_newTuple ?_)))))))
  have sz : g5.objs.size = s.heap.objs.size := by rw [s5.1, s4.1, s3.1, s2.1, s1.1]
  have all5 : ∀ c o, c ≠ z → c ≠ TO → c ≠ i1 → c ≠ i2 → s.heap.get? c = some o → g5.get? c = some o := fun c o n1 n2 n3 n4 e =>
    s5.extBut _ _ n2 (s4.extBut _ _ n4 (s3.extBut _ _ n2 (s2.extBut _ _ n3 (s1.extBut _ _ n1 e))))
  have z5 : IsZip g5 z TI TO Value.ellipsis := s5.extBut _ _ D.TOz.symm (s4.extBut _ _ D.i2z.symm (s3.extBut _ _ D.TOz.symm (s2.extBut _ _ D.i1z.symm z1)))
  have c15 : C1 g5 := S1.behind _ _ c3 fun o e => s5.extBut _ _ D.TOi1.symm (s4.extBut _ _ D.i12 e)
  have c25 : C2 g5 := S2.behind _ _ c4 fun o e => s5.extBut _ _ D.TOi2.symm e
  have zl : z < g5.objs.size := Heap.lt_size z5
  show wpAny _ _ (Builtin.SmallTypes.ownedTupleHandOut (.ref z) (.ref g5.objs.size) >>= fun _ => _) _ _ _
  refine wpAny_bind ?_
  unfold Builtin.SmallTypes.ownedTupleHandOut
  have z6 : IsZip (g5.push { cls := .type "tuple", data := .seq #[x, y] }) z TI TO Value.ellipsis := Heap.get?_push_of_some _ z5
  refine wpAny_bind (wpAny_setField_rec z6 (by simp) fun g7 z7 s7 => ?_)
  have z7 : IsZip g7 z TI TO (rawInt g5.objs.size) := z7
  refine wpAny_setField_rec z7 (by simp) fun g8 z8 s8 => ?_
  have z8 : IsZip g8 z TI TO (rawInt g5.objs.size) := z8
  have up : ∀ c o, c ≠ z → g5.get? c = some o → g8.get? c = some o := fun c o n e => s8.extBut _ _ n (s7.extBut _ _ n (Heap.get?_push_of_some _ e))
  have t8 : IsPair g8 g5.objs.size x y := s8.extBut _ _ (Nat.ne_of_gt zl) (s7.extBut _ _ (Nat.ne_of_gt zl) (Heap.get?_push_size _ rfl))
  rw [sz] at z8 t8
  refine wpAny_pure ⟨_, rfl, ?_⟩
  show Q (.ref g5.objs.size) _
  rw [sz]
  exact k g8 z8 (up _ _ D.TOz o5) (S1.behind _ _ c15 fun o e => up _ o D.i1z e) (S2.behind _ _ c25 fun o e => up _ o D.i2z e) t8 fun c o n1 n2 n3 n4 e => up c o n1 (all5 c o n1 n2 n3 n4 e)
theorem next_two {B1 C1 B2 C2 : Heap → Prop} {x y u v : Value} {Q : Option Value → Shared → Prop} (D : ZipApart z TI TO i1 i2 l1 l2) (S1 : Gives i1 l1 B1 C1 x) (S2 : Gives i2 l2 B2 C2 y)
    (hz : IsZip s.heap z TI TO .none) (hI : IsPair s.heap TI (.ref i1) (.ref i2)) (hO : IsPair s.heap TO u v) (b1 : B1 s.heap) (b2 : B2 s.heap) (e1 : ∃ o, s.heap.get? i1 = some o) (e2 : ∃ o, s.heap.get? i2 = some o)
    (k : ∀ g, IsZip g z TI TO (rawInt s.heap.objs.size) → IsPair g TO x y → C1 g → C2 g → IsPair g s.heap.objs.size x y → (∀ c o, c ≠ z → c ≠ TO → c ≠ i1 → c ≠ i2 → s.heap.get? c = some o → g.get? c = some o) → Q (some (.ref s.heap.objs.size)) { s with heap := g }) :
    wpAny (model P w) A (pyNext (.ref z)) Q E s := by
  have ty : s.TypeIs (.ref z) "zip" := ⟨_, hz, rfl⟩
  unfold pyNext
  exact wpAny_bind (wpAny_attempt (wpAny_callSpecial?_slot (name := Str.ofString "__next__") ty F.slot_zip_next (wpAny_call_entry F.slot_zip_next ty F.entry_zip_next
    (two_give D S1 S2 hz hI hO b1 b2 e1 e2 fun g a1 a2 a3 a4 a5 a6 => wpAny_pure (k g a1 a2 a3 a4 a5 a6)) (F.args_zip_next_1 _))))
/-- the first one, a tuple, is through -/
theorem next_none {n : Nat} {xs : Array Value} {u v : Value} {Q : Option Value → Shared → Prop} (hh : A.handled = none) (D : ZipApart z TI TO i1 i2 l1 l2)
    (hz : IsZip s.heap z TI TO .none) (hI : IsPair s.heap TI (.ref i1) (.ref i2)) (hO : IsPair s.heap TO u v) (h1 : s.heap.IsTupleIter i1 l1 n) (hl : s.heap.IsTuple l1 xs) (hx : xs[n]? = none)
    (k : ∀ g, (∀ c o, c ≠ z → c ≠ TO → c ≠ i1 → c ≠ i2 → s.heap.get? c = some o → g.get? c = some o) → Q none { s with heap := g }) : wpAny (model P w) A (pyNext (.ref z)) Q E s := by
  have ty : s.TypeIs (.ref z) "zip" := ⟨_, hz, rfl⟩
  unfold pyNext
  refine wpAny_bind (wpAny_attempt (wpAny_callSpecial?_slot (name := Str.ofString "__next__") ty F.slot_zip_next (wpAny_call_entry F.slot_zip_next ty F.entry_zip_next ?_ (F.args_zip_next_1 _))))
  show wpAny _ _ (field (.ref z) 2 >>= fun _ => _) _ _ _
  refine wpAny_bind (wpAny_field hz rfl (x := Value.bool false) rfl ?_)
  show wpAny _ _ (field (.ref z) 3 >>= fun _ => _) _ _ _
  refine wpAny_bind (wpAny_field hz rfl (x := Value.ref TI) rfl (wpAny_bind (wpAny_seqItems hI rfl ?_)))
  show wpAny _ _ (Builtin.SmallTypes.ownedTupleIsFree (.ref z) >>= fun _ => _) _ _ _
  refine wpAny_bind ?_
  unfold Builtin.SmallTypes.ownedTupleIsFree
  refine wpAny_bind (wpAny_field hz rfl (x := Value.none) rfl (wpAny_pure ?_))
  simp only [if_true]
  refine wpAny_bind (wpAny_rule (wpAny_bind (wpAny_field hz rfl (x := Value.ref TO) rfl (wpAny_bind (wpAny_setField_rec hz (by simp) fun g1 z1 s1 => ?_)))))
  have z1 : IsZip g1 z TI TO Value.ellipsis := z1
  refine wpAny_bind ?_
  simp only [List.zipIdx_cons, List.zipIdx_nil, List.forIn_cons, List.forIn_nil]
  refine wpAny_bind (wpAny_bind (wpAny_onRaise ?_))
  show wpAny _ _ (Builtin.SmallTypes.nextOf (.ref i1) >>= fun _ => _) _ _ _
  have hl1 : g1.IsTuple l1 xs := by
    obtain ⟨o, ho, r⟩ := hl
    exact ⟨o, s1.extBut _ _ D.l1z ho, r⟩
  refine wpAny_bind (RZ.nextOf_tuple_end hh (h1.at fun o e => s1.extBut _ _ D.i1z e) hl1 hx fun g2 e s2 he => ?_)
  obtain ⟨oe, hoe, hce⟩ := he
  have z2 : IsZip g2 z TI TO Value.ellipsis := s2 _ _ D.i1z.symm z1
  have ne : e ≠ z := fun q => by
    subst q
    rw [z2] at hoe
    cases hoe
    simp at hce
  refine wpAny_setField_rec z2 (by simp) fun g3 _ s3 => ?_
  refine wpAny_bind (wpAny_isInstance (T := "StopIteration") (b := true) ⟨oe, s3.extBut _ _ ne hoe, hce⟩ isSubtype_stop (wpAny_pure (k g3 fun c o n1 n2 n3 n4 q => s3.extBut _ _ n1 (s2 _ _ n3 (s1.extBut _ _ n1 q)))))
end
end Zm
namespace Zm
open PySem PySem.Spec PyProof.Rows L2
theorem made (a b : Addr) (xs ys : Array Value) : Meets (Builtin.«zip.__new__» ⟨[.type "zip", .ref a, .ref b], []⟩) (fun _ R t => t.heap.IsTuple a xs ∧ t.heap.IsList b ys ∧ R (.ok (.ret (.ref (k4 t.heap a b).objs.size))) { t with heap := k5 t.heap a b }) :=
  .of_wp fun P w A R t h => by
    obtain ⟨hp, g, d, tk, os⟩ := t
    obtain ⟨u1, u2, h⟩ := h
    have hsub := sub_zip
    have v1 : Heap.IsTuple (Shared.heap ⟨hp, g, d, tk, os⟩) a xs := u1
    have v2 : Heap.IsList (Shared.heap ⟨hp.push { cls := .type "tuple_iterator", data := .fields #[.ref a, .int 0 0] }, g, d, tk, os⟩) b ys := Heap.IsList.push u2 _
    wp_walk using wpAny_pyIter_tuple v1, wpAny_pyIter_list v2
    exact ⟨_, rfl, h⟩
section
variable {P : Program} {w : World} {A : Around} {E : Value → Shared → Prop} {s : Shared}
theorem call_two {a b : Addr} {xs ys : Array Value} {Q : Value → Shared → Prop} (u1 : s.heap.IsTuple a xs) (u2 : s.heap.IsList b ys)
    (k : ∀ g, IsZip g (s.heap.objs.size + 4) (s.heap.objs.size + 2) (s.heap.objs.size + 3) .none → IsPair g (s.heap.objs.size + 2) (.ref s.heap.objs.size) (.ref (s.heap.objs.size + 1)) → IsPair g (s.heap.objs.size + 3) .none .none →
      g.IsTupleIter s.heap.objs.size a 0 → g.IsListIter (s.heap.objs.size + 1) b 0 → (∀ c o, s.heap.get? c = some o → g.get? c = some o) → Q (.ref (s.heap.objs.size + 4)) { s with heap := g }) :
    wpAny (model P w) A (call (.type "zip") [.ref a, .ref b]) Q E s := by
  refine callType_new F.called_zip (by decide) (F.typeCall_zip_2 _ _) (F.newCall_zip_2 _ _) (fun ob => F.args_object_init_3 ob _ _) F.entry_zip_new (made a b xs ys) ⟨u1, u2, ?_⟩
  have n1 : (k1 s.heap a).objs.size = s.heap.objs.size + 1 := Heap.size_push ..
  have n2 : (k2 s.heap a b).objs.size = s.heap.objs.size + 2 := by rw [Heap.size_push, n1]
  have n3 : (k3 s.heap a b).objs.size = s.heap.objs.size + 3 := by rw [Heap.size_push, n2]
  have n4 : (k4 s.heap a b).objs.size = s.heap.objs.size + 4 := by rw [Heap.size_push, n3]
  have up1 : ∀ {h : Heap} {c : Addr} {o p : Obj}, h.get? c = some o → (h.push p).get? c = some o := fun e => Heap.get?_push_of_some _ e
  have f5 : (k5 s.heap a b).get? (k4 s.heap a b).objs.size = some _ := Heap.get?_push_size _ rfl
  have f4 : (k5 s.heap a b).get? (k3 s.heap a b).objs.size = some _ := up1 (Heap.get?_push_size _ rfl)
  have f3 : (k5 s.heap a b).get? (k2 s.heap a b).objs.size = some _ := up1 (up1 (Heap.get?_push_size _ rfl))
  have f2 : (k5 s.heap a b).get? (k1 s.heap a).objs.size = some _ := up1 (up1 (up1 (Heap.get?_push_size _ rfl)))
  have f1 : (k5 s.heap a b).get? s.heap.objs.size = some _ := up1 (up1 (up1 (up1 (Heap.get?_push_size _ rfl))))
  show _ ∧ _
  rw [n2, n3, n4] at f5
  rw [n1, n2] at f3
  rw [n3] at f4
  rw [n1] at f2
  rw [n4]
  exact ⟨⟨_, f5, rfl⟩, k _ f5 f3 f4 ⟨_, f1, rfl, rfl⟩ ⟨_, f2, rfl, rfl⟩ fun c o e => up1 (up1 (up1 (up1 (up1 e))))⟩
end
/-- the tuple at a and the list at b as they stand at each turn, the items in new pairs -/
def ItM (K : PySem.W.Frag) (a b : Addr) : It :=
  ⟨fun i H => ∃ (xs ys : List V) (x y : V), SqT K H a xs ∧ SqL K H b ys ∧ xs[i]? = some x ∧ ys[i]? = some y,
    fun i H v H' => ∃ T x y, v = .ref T ∧ H T = none ∧ H' = upd H T (.tup [x, y]) ∧ (∀ xs, SqT K H a xs → xs[i]? = some x) ∧ ∀ ys, SqL K H b ys → ys[i]? = some y,
    fun i H => ∃ xs : List V, SqT K H a xs ∧ xs.length ≤ i⟩
theorem turn_two {P : Program} {w : World} {K : PySem.W.Frag} {elts : List Expr} {kk : Nat} {tpos : Pos} {a b z TI TO i1 i2 : Addr} (D : ZipApart z TI TO i1 i2 a b) :
    Turn P w K (.Tuple elts kk tpos) (ItM K a b) [z, TI, TO, i1, i2] z (fun i h => IsZip h z TI TO .none ∧ IsPair h TI (.ref i1) (.ref i2) ∧ (∃ x y, IsPair h TO x y) ∧ h.IsTupleIter i1 a i ∧ h.IsListIter i2 b i) where
  mem := List.mem_cons_self
  obj := fun i h ⟨hz, hI, ⟨x, y, hO⟩, ⟨o1, e1, _, d1⟩, ⟨o2, e2, _, d2⟩⟩ c hc => by
    have m : c = z ∨ c = TI ∨ c = TO ∨ c = i1 ∨ c = i2 := by simpa using hc
    rcases m with m | m | m | m | m <;> rw [m]
    · exact ⟨_, hz, fun v q => by cases q⟩
    · exact ⟨_, hI, fun v q => by cases q⟩
    · exact ⟨_, hO, fun v q => by cases q⟩
    · exact ⟨o1, e1, fun v q => by rw [d1] at q; cases q⟩
    · exact ⟨o2, e2, fun v q => by rw [d2] at q; cases q⟩
  keep := fun i h g ⟨hz, hI, ⟨x, y, hO⟩, h1, h2⟩ k =>
    ⟨k z (by simp) _ hz, k TI (by simp) _ hI, ⟨x, y, k TO (by simp) _ hO⟩, h1.at fun o e => k i1 (by simp) o e, h2.at fun o e => k i2 (by simp) o e⟩
  item := by
    intro X hP hw hK hc i pins s σ H E I hf ⟨hz, hI, ⟨x0, y0, hO⟩, h1, h2⟩ ⟨xs, ys, x, y, qx, qy, hx, hy⟩
    subst hP hw hK
    obtain ⟨is1, rv1, p1, _⟩ := I.tuple qx
    obtain ⟨is2, rv2, p2, _⟩ := I.list qy
    obtain ⟨u1, hu1, ru1⟩ := rv1.get hx
    obtain ⟨u2, hu2, ru2⟩ := rv2.get hy
    have zl : z < s.heap.objs.size := Heap.lt_size hz
    have l1 : i1 < s.heap.objs.size := by obtain ⟨_, e, _⟩ := h1; exact Heap.lt_size e
    have l2 : i2 < s.heap.objs.size := by obtain ⟨_, e, _⟩ := h2; exact Heap.lt_size e
    refine next_two D (gives_tup (i := i1) (l := a) (k := i) (xs := is1.toArray) (x := u1) (by simpa using hu1)) (gives_list (i := i2) (l := b) (k := i) (xs := is2.toArray) (x := u2) (by simpa using hu2)) hz hI hO ⟨h1, p1⟩ ⟨h2, p2.isList⟩
      (by obtain ⟨o, e, _⟩ := h1; exact ⟨o, e⟩) (by obtain ⟨o, e, _⟩ := h2; exact ⟨o, e⟩) fun g zg og h1g h2g tg kg => ⟨_, rfl, wpAny_letOwnedTupleGo_zip (s := { s with heap := g }) zg fun g' zg' sb => ?_⟩
    have tg' : g'.get? s.heap.objs.size = some { cls := .type "tuple", data := .seq #[u1, u2] } := (sb.2 _ (Nat.ne_of_gt zl)).trans tg
    have I1 : Inv X pins σ (upd H s.heap.objs.size (.tup [x, y])) { s with heap := g' } := by
      refine I.turnedNew (t' := s.toks) (ch := [z, TI, TO, i1, i2]) (fun c o hb e => ?_) hf (Nat.le_refl _) ⟨by show 2 ≤ sizeLine; decide, [u1, u2], .cons ru1 (.cons ru2 .nil), _, tg', rfl, _, rfl⟩
      have nb : c ≠ z ∧ c ≠ TI ∧ c ≠ TO ∧ c ≠ i1 ∧ c ≠ i2 := by simpa using hb
      exact (sb.2 c nb.1).trans (kg c o nb.1 nb.2.2.1 nb.2.2.2.1 nb.2.2.2.2 e)
    refine ⟨.ref s.heap.objs.size, _, I1, rfl, ⟨_, x, y, rfl, I.hok.fresh (Nat.le_refl _), rfl, fun zs hs => by rw [I.tuple_inj hs qx]; exact hx, fun zs hs => by rw [I.list_inj hs qy]; exact hy⟩,
      ⟨zg', (sb.2 _ D.TIz).trans (kg _ _ D.TIz D.TITO D.TIi1 D.TIi2 hI), ⟨u1, u2, (sb.2 _ D.TOz).trans og⟩, h1g.at fun o e => (sb.2 _ D.i1z).trans e, h2g.at fun o e => (sb.2 _ D.i2z).trans e⟩, fun c hcm => ?_⟩
    have lt : c < s.heap.objs.size := by
      have m : c = z ∨ c = TI ∨ c = TO ∨ c = i1 ∨ c = i2 := by simpa using hcm
      rcases m with m | m | m | m | m <;> rw [m]
      · exact zl
      · exact Heap.lt_size hI
      · exact Heap.lt_size hO
      · exact l1
      · exact l2
    rw [upd_ne (Nat.ne_of_lt lt)]
    exact (hf c hcm).1
  done := by
    intro X hP hw hK hc i pins s σ H E I hf ⟨hz, hI, ⟨x0, y0, hO⟩, h1, h2⟩ ⟨xs, qx, hl⟩
    subst hP hw hK
    obtain ⟨is1, rv1, p1, _⟩ := I.tuple qx
    have ln := rv1.length
    refine next_none (I.ok.hd hc) D hz hI hO h1 p1 (show is1.toArray[i]? = none by simp; omega) fun g kg => ⟨rfl, I.turnedL (t' := s.toks) (ch := [z, TI, TO, i1, i2]) (fun c o hb e => ?_) hf⟩
    have nb : c ≠ z ∧ c ≠ TI ∧ c ≠ TO ∧ c ≠ i1 ∧ c ≠ i2 := by simpa using hb
    exact kg c o nb.1 nb.2.2.1 nb.2.2.2.1 nb.2.2.2.2 e
  self := fun A i s Q E st h => wpAny_pyIter_zip st.1 h
def iZipM (K : PySem.W.Frag) (ta : TA) : TI := fun σ H R => ta σ H fun vs H1 => ∃ a b xs ys, vs = [.ref a, .ref b] ∧ SqT K H1 a xs ∧ SqL K H1 b ys ∧ R (ItM K a b) H1
theorem pi_zipM {X : Cx} {e e2 : Expr} {ta : TA} {p pos tpos : Pos} {elts : List Expr} {kk : Nat} (hg : Gl X "zip") (hm : X.mg "zip" = none) (ha : PA X [e, e2] ta)
    (hs : starEach [e, e2] X.env = (false, eval e X.env) :: starEach [e2] X.env := by rfl) (hpl : (backTo pos (starEach [e2] X.env)).any (·.1) = false := by rfl) : PI X (.Tuple elts kk tpos) (.Call (.Name "zip" p) [e, e2] [] pos) (iZipM X.K ta) := by
  refine ⟨fun pins s σ H R I h => Call_ (ld_blt I hg hm PyProof.Rows.boot_zip (PyProof.Rows.callWith_type1 (thn (ha.run pos pins s σ H _ I h) fun us t ⟨vs, H1, I1, r1, q1⟩ => ?_) hs hpl))⟩
  obtain ⟨a, b, xs, ys, ex, qx, qy, q⟩ := q1
  subst ex
  cases r1 with
  | cons r rr =>
    cases rr with
    | cons r' rr =>
      cases rr
      cases r
      cases r'
      obtain ⟨is1, rv1, p1, _⟩ := I1.tuple qx
      obtain ⟨is2, rv2, p2, _⟩ := I1.list qy
      obtain ⟨o1, f1, _⟩ := id p1
      refine call_two (show t.heap.IsTuple a is1.toArray from p1) p2.isList fun g zg ig og h1 h2 kg => wpAny_pyIter_zip zg ?_
      have I2 : Inv X pins σ H1 { t with heap := g } := I1.kept (t' := t.toks) kg
      refine ⟨t.heap.objs.size + 4, [t.heap.objs.size + 4, t.heap.objs.size + 2, t.heap.objs.size + 3, t.heap.objs.size, t.heap.objs.size + 1], _, _, H1, rfl, I2, turn_two (PySem.W.ktu_apart t.heap.objs.size a b (Heap.lt_size f1) p2.lt), ⟨zg, ig, ⟨_, _, og⟩, h1, h2⟩, fun c hcm => ?_, q⟩
      have le : t.heap.objs.size ≤ c := by
        have m : c = t.heap.objs.size + 4 ∨ c = t.heap.objs.size + 2 ∨ c = t.heap.objs.size + 3 ∨ c = t.heap.objs.size ∨ c = t.heap.objs.size + 1 := by simpa using hcm
        rcases m with m | m | m | m | m <;> rw [m] <;> first | exact Nat.le_refl _ | exact Nat.le_add_right _ _
      exact I1.fpOk le (I1.hok.fresh le)
theorem walk_two {K : PySem.W.Frag} {a b : Addr} {xs ys : List V} (hn : xs.length = ys.length) : Walk (ItM K a b) xs.length (fun H => SqT K H a xs ∧ SqL K H b ys) (YPair (fun i => xs[i]?) (fun i => ys[i]?)) :=
  ⟨fun i H hi q => ⟨xs, ys, xs[i], ys[i]'(by omega), q.1, q.2, List.getElem?_eq_getElem hi, List.getElem?_eq_getElem (by omega)⟩, fun H q => ⟨xs, q.1, Nat.le_refl _⟩,
    fun i H v H' hi q ⟨T, x, y, e1, e2, e3, e4, e5⟩ => ⟨T, x, y, e1, e2, e3, e4 xs q.1, e5 ys q.2⟩⟩
end Zm
namespace TG
open PySem L2 Gx
def padS (x : Str) (n : Int) : Str := ⟨(cl x ++ List.replicate (n.toNat - (cl x).length) 32).toArray⟩
theorem cl_pad (x : Str) (n : Int) : cl (padS x n) = cl x ++ List.replicate (n.toNat - (cl x).length) 32 := by simp [padS, cl]
theorem pad_of {x y : Str} {n : Int} (h : cl y = cl x ++ List.replicate (n.toNat - (cl x).length) 32) : y = padS x n := str_ext (by rw [h, cl_pad])
theorem ljust_pad (x : Str) (n : Int) : Txt.ljust x n = padS x n := by
  refine pad_of ?_
  have hl := len_cl x
  unfold Txt.ljust
  by_cases h : n ≤ ((x.length : Nat) : Int)
  · rw [if_pos h, show n.toNat - (cl x).length = 0 by omega]
    simp
  · rw [if_neg h, ← hl]
    simp [Builtin.Str.padded, cl]
def lineTo (rows : List (List Str)) (gap least : Int) (i : Nat) (r : List Str) : Nat → Str
  | 0 => ""
  | k + 1 => if cl (r.getD k nilS) = [] then lineTo rows gap least i r k else padS (lineTo rows gap least i r k) (begC rows gap least i (ncl rows i) k) ++ r.getD k nilS
def lineR (rows : List (List Str)) (gap least : Int) (i : Nat) : Str := lineTo rows gap least i (rows.getD i []) (rows.getD i []).length
theorem long_le {zs : List Str} (h : ∀ z ∈ zs, CellOk z) : longB zs ≤ 10 := by
  by_cases e : zs = []
  · rw [e]; exact Nat.zero_le _
  · obtain ⟨z, hz, hl⟩ := long_in e
    rw [← hl]
    exact (h z hz).len
theorem w_bd {rows : List (List Str)} {gap least : Int} (S : Small rows gap least) {i c : Nat} (h : c < ncl rows i) : 0 ≤ wB rows gap least i c ∧ wB rows gap least i c ≤ 14 := by
  have hcl : clB rows c i = true := by rw [cl_ncl]; exact decide_eq_true h
  obtain ⟨_, _, _, hle, hin⟩ := cl_run hcl
  have h1 := long_le (zs := cellsB rows c (loB rows c i) (hiB rows c i)) fun z hz => cells_mem S.ok hin hle hz
  have := S.g0
  have := S.g1
  have := S.l0
  have := S.l1
  unfold wB widthB
  split <;> omega
theorem left_bd {rows : List (List Str)} {gap least : Int} (S : Small rows gap least) {i : Nat} : ∀ {c : Nat}, c ≤ ncl rows i → 0 ≤ leftB rows gap least i c ∧ leftB rows gap least i c ≤ 14 * (c : Int)
  | 0, _ => ⟨Int.le_refl _, Int.le_refl _⟩
  | c + 1, h => by
    obtain ⟨h1, h2⟩ := left_bd S (i := i) (c := c) (by omega)
    obtain ⟨h3, h4⟩ := w_bd S (i := i) (c := c) (by omega)
    have e : leftB rows gap least i (c + 1) = leftB rows gap least i c + wB rows gap least i c := rfl
    omega
theorem len_bd {rows : List (List Str)} (hO : PgOk rows) {i c : Nat} (h : c < ncl rows i) : 0 ≤ lenC rows i c ∧ lenC rows i c ≤ 10 := by
  unfold ncl at h
  cases q : rows[i]? with
  | none => rw [q] at h; exact absurd h (Nat.not_lt_zero _)
  | some r =>
    rw [q] at h
    have h : c < r.length - 1 := h
    have hc : c < r.length := by omega
    have := ((hO.rows r (List.mem_of_getElem? q)).cells _ (List.getElem_mem hc)).len
    unfold lenC
    rw [show rows.getD i [] = r by rw [List.getD_eq_getElem?_getD, q]; rfl, List.getD_eq_getElem?_getD, List.getElem?_eq_getElem hc]
    show 0 ≤ (((r[c]'hc).length : Nat) : Int) ∧ (((r[c]'hc).length : Nat) : Int) ≤ 10
    omega
theorem beg_bd {rows : List (List Str)} {gap least : Int} (S : Small rows gap least) {i c : Nat} (h : c ≤ ncl rows i) : -14 ≤ begC rows gap least i (ncl rows i) c ∧ begC rows gap least i (ncl rows i) c ≤ 70 := by
  have n5 := ncl_le S.ok i
  have h1 := left_bd S h
  have := S.g0
  have := S.g1
  unfold begC
  by_cases q : c < ncl rows i ∧ rB rows i c = true
  · rw [if_pos q]
    have h2 := left_bd S (i := i) (c := c + 1) (by omega)
    have h3 := len_bd S.ok q.1
    omega
  · rw [if_neg q]
    omega
theorem line_len {rows : List (List Str)} {gap least : Int} (S : Small rows gap least) {i : Nat} {r : List Str} (hr : rows[i]? = some r) : ∀ {k : Nat}, k ≤ r.length → (lineTo rows gap least i r k).length ≤ 70 + 10 * k
  | 0, _ => by
    show (Str.ofString "").length ≤ _
    rw [emp_len]
    omega
  | k + 1, h => by
    have ih := line_len S hr (k := k) (by omega)
    have hrO := S.ok.rows r (List.mem_of_getElem? hr)
    have hp := hrO.pos
    have hn : ncl rows i = r.length - 1 := by unfold ncl; rw [hr]
    have hb := (beg_bd S (i := i) (c := k) (by omega)).2
    have hz := (hrO.cells _ (List.getElem_mem (show k < r.length by omega))).len
    have eg : r.getD k nilS = r[k]'(by omega) := by rw [List.getD_eq_getElem?_getD, List.getElem?_eq_getElem (by omega)]; rfl
    unfold lineTo
    by_cases q : cl (r.getD k nilS) = []
    · rw [if_pos q]; omega
    · rw [if_neg q, len_cl, cl_app, List.length_append, cl_pad, List.length_append, List.length_replicate, ← len_cl, ← len_cl, eg]
      omega
theorem pad_len (x : Str) (n : Int) : (padS x n).length ≤ max x.length n.toNat := by
  rw [len_cl, cl_pad, List.length_append, List.length_replicate, ← len_cl]
  omega
section
variable {P : Program} {w : World} {K : PySem.W.Frag} {mg : Str → Option Value} {base : Heap} {cs : List (Addr × Addr)}
def spLine (K : PySem.W.Frag) : Sp := fun vs H Q _ => ∃ (a e : Addr) (rows : List (List Str)) (gap least : Int) (i : Nat) (r : List Str), vs = [.ref a, .ref e] ∧ Small rows gap least ∧ rows[i]? = some r ∧ SqT K H a (sV r) ∧ SqL K H e ((begsR rows gap least i).map V.int) ∧
  ∀ H', Same H H' → Q (.str (lineR rows gap least i)) H'
abbrev nmLn : List Str := ["row", "begins", "line", "cell", "begin"]
theorem sc_ln : FnScope nmLn ["row", "begins"] (defScope s_line_of) := ⟨rfl, rfl, rfl, by decide +kernel, rfl, by decide +kernel, by decide +kernel⟩
theorem begs_get {rows : List (List Str)} {gap least : Int} {i c : Nat} (h : c ≤ ncl rows i) : (begsR rows gap least i)[c]? = some (begC rows gap least i (ncl rows i) c) := by
  unfold begsR begsTo
  rw [List.getElem?_map, List.getElem?_range (by omega)]
  rfl
theorem ok_lineof {f : Addr} {fd : FuncData} (hz : mg "zip" = none) (F : Fun K "line_of" "line_of" s_line_of f fd) : FnOk P w K mg base CX0 1 f fd ["row", "begins"] (spLine K) := by
  refine F.ok sc_ln (fun vs H Q E h => ?_) (fun cdv A outer s H vs Q E hr h => ?_)
  · obtain ⟨a, e, rows, gap, least, i, r, rfl, _⟩ := h
    rfl
  · obtain ⟨a, e, rows, gap, least, i, r, rfl, S, hr2, hA, hE, k⟩ := h
    have nd := sc_ln.nd
    refine ⟨_, pss_cons (ps_set (i := 2) nd rfl (.inl rfl) pe_str)
      (pss_cons (ps_for PassesOwn.never rfl (Zm.pi_zipM (by rfl) hz (pa_cons (pv 0) (pa_cons (pv 1) pa_nil))) (pg_tup rfl (pgs_cons (pg_name (i := 3) nd rfl (.inl rfl)) (pgs_cons (pg_name (i := 4) nd rfl (.inl rfl)) pgs_nil)))
        (pss_one (ps_if (pt_cmpR op_ne (pv 3) pe_str (nomark _)) (pss_one (ps_set (i := 2) nd rfl (.inl rfl) (pe_op op_add_str (pe_m1 PySem.F.slot_str_ljust PySem.F.type_str_ljust mt_ljust (pv 2) (pv 4)) (pv 3)))) pss_nil)))
      (pss_one (ps_ret (pv 2)))), ?_⟩
    have szl : (1000 : Nat) < sizeLine := by decide
    have hrO := S.ok.rows r (List.mem_of_getElem? hr2)
    have hp := hrO.pos
    have hrl := hrO.len
    have hn : ncl rows i = r.length - 1 := by unfold ncl; rw [hr2]
    have er : rows.getD i [] = r := by rw [List.getD_eq_getElem?_getD, hr2]; rfl
    refine ⟨_, rfl, _, rfl, a, e, _, _, rfl, hA, hE, for_it (Zm.walk_two (K := K) (a := a) (b := e) (xs := sV r) (ys := (begsR rows gap least i).map V.int) (by rw [List.length_map, List.length_map]; unfold begsR; rw [begs_len]; omega)) (fun j σ H' => ∃ c3 c4 : Option V, σ = [some (.ref a), some (.ref e), some (.str (lineTo rows gap least i r j)), c3, c4] ∧ Same H H')
      ⟨_, _, rfl, same_refl⟩ (fun j σ H' _ ⟨_, _, _, x⟩ => ⟨same_sqT x hA, same_sqL x hE⟩) ?_ ?_⟩
    · rintro j v σ H3 H4 hj ⟨c3, c4, rfl, x3⟩ ⟨Tp, y1, y2, rfl, hn2, rfl, hv, hu⟩
      obtain ⟨z, hz2, rfl⟩ := get_map hv
      obtain ⟨b, hb, rfl⟩ := get_map hu
      rw [List.length_map] at hj
      rw [begs_get (by omega)] at hb
      cases hb
      have x4 := same_trans x3 (same_new (o := .tup [.str z, .int (begC rows gap least i (ncl rows i) j)]) hn2)
      have eg : r.getD j nilS = z := by rw [List.getD_eq_getElem?_getD, hz2]; rfl
      have zl := (hrO.cells z (List.mem_of_getElem? hz2)).len
      obtain ⟨b1, b2⟩ := beg_bd S (i := i) (c := j) (by omega)
      have ll := line_len S hr2 (k := j) (by omega)
      have pl := pad_len (lineTo rows gap least i r j) (begC rows gap least i (ncl rows i) j)
      refine ⟨Tp, _, rfl, .inl (.inl upd_same), rfl, _, _, rfl, _, _, rfl, rfl, _, rfl, rfl, _, rfl, ?_⟩
      rw [ne_empty]
      by_cases hc : cl z = []
      · rw [decide_eq_false (fun n => n hc)]
        refine iteF ⟨some (.str z), some (.int (begC rows gap least i (ncl rows i) j)), ?_, x4⟩
        have : lineTo rows gap least i r (j + 1) = lineTo rows gap least i r j := by
          show (if cl (r.getD j nilS) = [] then _ else _) = _
          rw [eg, if_pos hc]
        rw [this]
        rfl
      · rw [decide_eq_true hc]
        refine iteT ⟨_, rfl, ⟨_, rfl⟩, _, rfl, lineTo rows gap least i r j, begC rows gap least i (ncl rows i) j, rfl, rfl, ?_, _, rfl, _, z, rfl, rfl, ?_, ?_⟩
        · unfold PadOk fitsSsize Builtin.Str.tooLong
          rw [Bool.and_eq_true, Bool.not_eq_true', Bool.not_eq_true', Bool.or_eq_false_iff]
          exact ⟨⟨decide_eq_false (by omega), decide_eq_false (by omega)⟩, decide_eq_false (by omega)⟩
        · rw [ljust_pad]; omega
        · refine ⟨some (.str z), some (.int (begC rows gap least i (ncl rows i) j)), ?_, x4⟩
          have : lineTo rows gap least i r (j + 1) = padS (lineTo rows gap least i r j) (begC rows gap least i (ncl rows i) j) ++ z := by
            show (if cl (r.getD j nilS) = [] then _ else _) = _
            rw [eg, if_neg hc]
          rw [this, ljust_pad]
          rfl
    · rintro σ H3 ⟨c3, c4, rfl, x3⟩
      refine ⟨_, rfl, ?_⟩
      have := k H3 x3
      unfold lineR at this
      rw [er] at this
      rw [List.length_map]
      exact this
end
end TG
namespace TG
open PySem L2 Gx
section
variable {P : Program} {w : World} {K : PySem.W.Frag} {mg : Str → Option Value} {base : Heap} {cs : List (Addr × Addr)}
abbrev nmShown : List Str := ["page", "style", "row", "begins"]
theorem sc_shown : FnScope nmShown ["page", "style"] (defScope s_shown) := ⟨rfl, rfl, rfl, by decide +kernel, rfl, by decide +kernel, by decide +kernel⟩
end
end TG
namespace Lv
open PySem PySem.Spec PyProof.Rows L2 NdefX GenW
/-- the object at f is the lambda F of the body e -/
def FnL (f : Addr) (F : NF) (e : Expr) : HO := .ext fun h => ∃ (od : Option Addr) (sl : Array (Option Value)) (pm ctv : Value), h.get? f = some (⟨.type "function", od, .func (PySem.W.kla_fn F.name F.qual F.params e F.scope F.cl pm (.ref F.c) ctv), sl⟩ : Obj)
theorem fnL_at {P : Program} {w : World} {H : Hp} {h : Heap} {f : Addr} {F : NF} {e : Expr} (hok : HOk P w H h) (q : H f = some (FnL f F e)) : ∃ (od : Option Addr) (sl : Array (Option Value)) (pm ctv : Value), h.get? f = some (⟨.type "function", od, .func (PySem.W.kla_fn F.name F.qual F.params e F.scope F.cl pm (.ref F.c) ctv), sl⟩ : Obj) := by
  have z := hok f _ q
  obtain ⟨z, _, _⟩ := z
  exact z
theorem fnL_ne {f : Addr} {F : NF} {e : Expr} (ps : Array Value) : FnL f F e ≠ .tbl ps := fun z => by
  unfold FnL at z
  cases z
section
variable {X : Cx} {pins : List (Addr × Obj)} {σ : L2.St} {H : Hp} {s : Shared}
theorem inv_lam {F : NF} {e : Expr} {tk : Nat} {pm ctv : Value} (I : Inv X pins σ H s) :
    Inv X pins σ (upd H s.heap.objs.size (FnL s.heap.objs.size F e)) { s with heap := s.heap.push (PySem.W.kla_obj F.name F.qual F.params e F.scope F.cl pm F.c ctv), toks := tk } := by
  refine I.laid (a := s.heap.objs.size) (fun b u q => Heap.get?_push_of_some _ q) (Nat.le_refl _) ?_
  have q : (s.heap.push (PySem.W.kla_obj F.name F.qual F.params e F.scope F.cl pm F.c ctv)).get? s.heap.objs.size = some (PySem.W.kla_obj F.name F.qual F.params e F.scope F.cl pm F.c ctv) := Heap.get?_push_size _ rfl
  exact ⟨⟨_, _, pm, ctv, q⟩, ⟨_, q⟩, fun h1 h2 ⟨od, sl, p, t, z⟩ st => ⟨od, sl, p, t, st _ z⟩⟩
/-- a lambda's object is made, its code object too, if the table has none yet -/
theorem lam_val {c P : Addr} {params : Arguments} {body : Expr} {scope : Scope} {pos : Pos} {E : Value → Shared → Prop} {Q : Value → Shared → Prop} (I : Inv X pins σ H s) (B : LamX.TabB X.base X.mg c P) (hcode : X.env.code = .ref c)
    (hT : LamX.TabS H P (X.env.qual ++ "<lambda>")) (hdef : defaultsOf params X.env = ([], [])) (hfree : ∀ y ∈ scope.names, y.2 = .free → ∃ c, X.env.cells.lookup y.1 = some c)
    (k : ∀ (f c' : Addr) (H1 : Hp) (s' : Shared), Inv X pins σ H1 s' → (∀ b o, H b = some o → b ≠ P → H1 b = some o) → (∀ b, H1 b = none → H b = none) → LamX.TabS H1 P (X.env.qual ++ "<lambda>") → H f = none →
      H1 f = some (FnL f ⟨"<lambda>", X.env.qual ++ "<lambda>", params, [], scope, cloFrom X.env.cells scope.names [], c'⟩ body) → H1 c' = some (LamX.CodeO c' (X.env.qual ++ "<lambda>")) → Q (.ref f) s') :
    wpAny (model X.prog X.w) X.A (eval (.Lambda params body scope pos) X.env) Q E s := by
  obtain ⟨ps, tP, tok, tin⟩ := hT
  have bP : s.heap.BuiltinsAt X.mg P := B.bm.keeps I.bk
  have gP : s.heap.get? P = some { cls := .none, data := .fields ps } := I.hok P _ tP
  have none3 : ∀ {G : Hp} {x y z : Addr} {o u v : HO} {b : Addr}, upd (upd (upd G x o) y u) z v b = none → G b = none := fun {G x y z o u v b} q => by
    have r1 := q
    unfold upd at r1
    split at r1
    · cases r1
    split at r1
    · cases r1
    split at r1
    · cases r1
    exact r1
  refine PySem.W.kla_eval hdef ?_
  cases hc : codeAmong pos ps.toList with
  | some cv =>
    obtain ⟨c', e, hco⟩ := tin pos cv hc
    subst e
    refine PySem.W.kla_makeFunctionHit (mg := X.mg) (c := c) (P := P) (ps := ps) (closure_ok hfree) I.ok.glob (I.mod.glob.keeps I.bk) hcode (B.code.keeps I.bk) gP tok hc bP fun ctv h' tk hx hsz => ?_
    have I1 : Inv X pins σ H { s with heap := h', toks := tk } := I.kept hx
    have nF : H h'.objs.size = none := I1.hok.fresh (Nat.le_refl _)
    have I2 := inv_lam (F := ⟨"<lambda>", X.env.qual ++ "<lambda>", params, [], scope, cloFrom X.env.cells scope.names [], c'⟩) (e := body) (tk := tk) (pm := (X.mg "__name__").getD .none) (ctv := ctv) I1
    refine k h'.objs.size c' _ _ I2 (fun b o q _ => by rw [upd_ne (ne_of_none q nF)]; exact q) (fun b q => ?_) ⟨ps, by rw [upd_ne (ne_of_none tP nF)]; exact tP, tok, fun p' cv' q => ?_⟩ nF upd_same (by rw [upd_ne (ne_of_none hco nF)]; exact hco)
    · unfold upd at q
      split at q
      · cases q
      · exact q
    · obtain ⟨c0, e1, e2⟩ := tin p' cv' q
      exact ⟨c0, e1, by rw [upd_ne (ne_of_none e2 nF)]; exact e2⟩
  | none =>
    refine PySem.W.kla_makeFunction (mg := X.mg) (c := c) (P := P) (ps := ps) (closure_ok hfree) I.ok.glob (I.mod.glob.keeps I.bk) hcode (B.code.keeps I.bk) gP tok hc B.gP bP fun c' ctv h' tk hx hge hlt hrec htb => ?_
    obtain ⟨c2, oc, vs, t, e2, hoc, hd, hv⟩ := hrec
    cases e2
    have nC : H c' = none := I.hok.fresh hge
    have I1 := LamX.inv_table (t' := tk) (more := #[rawInt pos.line, rawInt pos.col, .ref c']) (h' := h') I tP (fun b o hb q => hx b o hb q) htb hge ⟨oc, vs, t, hoc, hd, hv⟩
    have nF := I1.hok.fresh (Nat.le_refl _)
    have I2 := inv_lam (F := ⟨"<lambda>", X.env.qual ++ "<lambda>", params, [], scope, cloFrom X.env.cells scope.names [], c'⟩) (e := body) (tk := tk) (pm := (X.mg "__name__").getD .none) (ctv := ctv) I1
    have fC : h'.objs.size ≠ c' := Nat.ne_of_gt hlt
    have pC : P ≠ c' := ne_of_none tP nC
    have nF0 : H h'.objs.size = none := I.hok.fresh (Nat.le_trans hge (Nat.le_of_lt hlt))
    have pF : P ≠ h'.objs.size := ne_of_none tP nF0
    have eL : (ps ++ #[rawInt pos.line, rawInt pos.col, .ref c']).toList = ps.toList ++ [rawInt pos.line, rawInt pos.col, .ref c'] := by simp
    have kk : ∀ b o, H b = some o → b ≠ P → upd (upd (upd H P (.tbl (ps ++ #[rawInt pos.line, rawInt pos.col, .ref c']))) c' (LamX.CodeO c' (X.env.qual ++ "<lambda>"))) h'.objs.size (FnL h'.objs.size ⟨"<lambda>", X.env.qual ++ "<lambda>", params, [], scope, cloFrom X.env.cells scope.names [], c'⟩ body) b = some o := fun b o q hb => by
      rw [upd_ne (ne_of_none q nF0), upd_ne (ne_of_none q nC), upd_ne hb]
      exact q
    refine k h'.objs.size c' _ _ I2 kk (fun b q => none3 q) ⟨_, by rw [upd_ne pF, upd_ne pC, upd_same], by rw [eL]; exact PySem.TriplesOk_snoc _ _ _ _ tok, fun p' cv q => ?_⟩ nF0 upd_same (by rw [upd_ne fC.symm, upd_same])
    rw [eL] at q
    rcases LamX.among_app _ tok q with z | z
    · obtain ⟨c0, e1, e2⟩ := tin p' cv z
      exact ⟨c0, e1, kk _ _ e2 (fun y => by rw [y, tP] at e2; exact LamX.codeO_ne ps (Option.some.inj e2).symm)⟩
    · exact ⟨c', z, by rw [upd_ne fC.symm, upd_same]⟩
end
section
variable {P : Program} {w : World} {K : PySem.W.Frag} {mg : Str → Option Value} {base : Heap}
end
end Lv
namespace Tw
open PySem PySem.Spec PyProof.Rows L2
section
variable {X : Cx}
end
end Tw
namespace TG
open PySem L2 Gx PySem.Spec
def blk (c : Nat) : Bool := decide (c = 32)
def ch (l : List Nat) (p : Nat) : Nat := l.getD p 32
end TG
namespace TG
open PySem L2 Gx
section
variable {rows : List (List Str)} {gap least : Int} (S : Small rows gap least) {i : Nat} {r : List Str} (hr : rows[i]? = some r)
include S hr
end
end TG
namespace TG
open PySem L2 Gx
end TG
namespace TG
open PySem L2 Gx
structure Consts2 (mg : Str → Option Value) : Prop where
  far : ∃ t, mg "FARTHEST" = some (.int 200 t)
section
variable {P : Program} {w : World} {K : PySem.W.Frag} {mg : Str → Option Value} {base : Heap} {cs : List (Addr × Addr)}
end
end TG
namespace TG
open PySem PySem.Spec PyProof.Rows L2 NdefX GenW Gx Lv
section
variable {P : Program} {w : World} {K : PySem.W.Frag} {mg : Str → Option Value} {base : Heap} {cs : List (Addr × Addr)}
theorem ex_code {H H' : Hp} {c : Addr} {q : Str} (x : Ex cs H H') (h : H c = some (LamX.CodeO c q)) : H' c = some (LamX.CodeO c q) := x.ext _ _ h fun ps => LamX.codeO_ne ps
end
end TG
namespace TG
open PySem PySem.Spec PyProof.Rows L2 NdefX GenW Gx Lv
section
variable {P : Program} {w : World} {K : PySem.W.Frag} {mg : Str → Option Value} {base : Heap} {cs : List (Addr × Addr)}
end
end TG
namespace TG
open PySem PySem.Spec PyProof.Rows L2 NdefX GenW Gx Lv
abbrev LamT := Arguments × Expr × Scope
def sc00 : Scope := { kind := .function, names := [], isGenerator := false, isCoroutine := false }
section
variable {P : Program} {w : World} {K : PySem.W.Frag} {mg : Str → Option Value} {base : Heap} {cs : List (Addr × Addr)}
end
end TG
namespace TG
open PySem PySem.Spec PyProof.Rows L2 NdefX GenW Gx Lv
section
variable {P : Program} {w : World} {K : PySem.W.Frag} {mg : Str → Option Value} {base : Heap} {cs : List (Addr × Addr)}
/-- the lambdas' table at p is no table of cs -/
abbrev Apart (cs : List (Addr × Addr)) (p : Addr) : Prop := ∀ q ∈ cs, q.2 ≠ p
theorem tabS_ex {H H' : Hp} {p : Addr} {q : Str} (x : Ex cs H H') (ne : Apart cs p) (t : LamX.TabS H p q) : LamX.TabS H' p q := by
  obtain ⟨ps, h1, h2, h3⟩ := t
  refine ⟨ps, x.oth _ _ h1 ne, h2, fun pos cv hc => ?_⟩
  obtain ⟨c, e1, e2⟩ := h3 pos cv hc
  exact ⟨c, e1, ex_code x e2⟩
theorem tabG_of {H : Hp} {p : Addr} {q : Str} (t : LamX.TabS H p q) : GxR.TabG H p := by
  obtain ⟨ps, h1, h2, _⟩ := t
  exact ⟨ps, h1, h2⟩
theorem tabs_more {H : Hp} {c p : Addr} {q : Str} (T : Tabs cs H) (t : LamX.TabS H p q) : Tabs ((c, p) :: cs) H := fun r hr => by
  rcases List.mem_cons.mp hr with z | z
  · rw [z]; exact tabG_of t
  · exact T r z
theorem tabs_less {H : Hp} {c p : Addr} (T : Tabs ((c, p) :: cs) H) : Tabs cs H := fun r hr => T r (List.mem_cons_of_mem _ hr)
theorem ex_lam {H H' : Hp} {c p : Addr} {q : Str} (T : Tabs cs H) (ne : Apart cs p) (t : LamX.TabS H p q) (k1 : ∀ b o, H b = some o → b ≠ p → H' b = some o) (k2 : ∀ b, H' b = none → H b = none) (t' : LamX.TabS H' p q) : Ex ((c, p) :: cs) H H' := by
  obtain ⟨ps, h1, _⟩ := t
  refine ⟨fun b o h n => k1 b o h fun z => ?_, tabs_more (fun r hr => ?_) t', k2, fun b o h m => k1 b o h fun z => m (c, p) List.mem_cons_self z.symm⟩
  · rw [z, h1] at h
    cases h
    exact n ps rfl
  · obtain ⟨ps2, h3, h4⟩ := T r hr
    exact ⟨ps2, k1 _ _ h3 (ne r hr), h4⟩
end
end TG
namespace TG
open PySem PySem.Spec PyProof.Rows L2 NdefX GenW Gx Lv
section
variable {P : Program} {w : World} {K : PySem.W.Frag} {mg : Str → Option Value} {base : Heap} {cs : List (Addr × Addr)}
end
end TG
namespace TG
open PySem PySem.Spec PyProof.Rows L2 NdefX GenW Gx Lv Tw
theorem GrowR.start {cs : List (Addr × Addr)} {H : Hp} {D : Addr} {rows : List (List Str)} {f : Str → Str} (hT : Tabs cs H) (n : H D = none) : GrowR cs H D rows f 0 (upd H D (.lst [])) :=
  ⟨Ex.laid hT n, n, [], upd_same, rfl, fun j q r h => by cases h⟩
theorem GrowR.go {cs : List (Addr × Addr)} {H H1 H2 : Hp} {D : Addr} {rows : List (List Str)} {f : Str → Str} {i : Nat} (o : GrowR cs H D rows f i H1) (x : Ex cs H1 H2) : GrowR cs H D rows f i H2 := by
  obtain ⟨ps, h1, h2, h3⟩ := o.sat
  exact ⟨o.ex.trans x, o.nD, ps, x.lst h1, h2, fun j q r a b => x.tup (h3 j q r a b)⟩
theorem GrowC.start {cs : List (Addr × Addr)} {H : Hp} {D : Addr} {r : List Str} {f : Str → Str} (hT : Tabs cs H) (n : H D = none) : GrowC cs H D r f 0 (upd H D (.lst [])) :=
  ⟨Ex.laid hT n, n, upd_same⟩
section
variable {P : Program} {w : World} {K : PySem.W.Frag} {mg : Str → Option Value} {base : Heap} {cs : List (Addr × Addr)}
end
end TG
namespace TG
open PySem L2 Gx Lv
section
variable {rows : List (List Str)} {gap least : Int} (S : Small rows gap least) {i : Nat} {r : List Str} (hr : rows[i]? = some r)
include S hr
end
end TG
namespace TG
open PySem PySem.Spec PyProof.Rows L2 NdefX GenW Gx Lv
section
variable {P : Program} {w : World} {K : PySem.W.Frag} {mg : Str → Option Value} {base : Heap} {cs : List (Addr × Addr)}
abbrev zD (zs : List Str) : PyData := .list (zs.map PyData.str)
theorem tabS_kb {b l p : Addr} {q : Str} {H H' : Hp} (t : LamX.TabS H p q) (B : BoxAt H b l) (x : KB b l H H') : LamX.TabS H' p q := by
  obtain ⟨ps, h1, h2, h3⟩ := t
  obtain ⟨ns, st, e1, e2, _⟩ := B
  have cne : ∀ {c : Addr} {q : Str} {xs : List V}, LamX.CodeO c q ≠ .lst xs := fun {c q xs} z => by unfold LamX.CodeO at z; cases z
  refine ⟨ps, x _ _ h1 (ne_of h1 e1 (by intro z; cases z)) (ne_of h1 e2 (by intro z; cases z)), h2, fun pos cv hc => ?_⟩
  obtain ⟨c, g1, g2⟩ := h3 pos cv hc
  exact ⟨c, g1, x _ _ g2 (ne_of g2 e1 cne) (ne_of g2 e2 cne)⟩
end
end TG
namespace Xi
open PySem PySem.Spec PyProof.Rows L2 NdefX
abbrev mwr (x : Addr) : Obj := PySem.W.kxs_mw "ValueError.__init__" x
/-- the bound __init__ of ValueError, tracked -/
def mwO (u x : Addr) : HO := .ext fun h => h.get? u = some (mwr x)
theorem mwO_ok {P : Program} {w : World} {H : Hp} {h : Heap} {u x : Addr} (e : h.get? u = some (mwr x)) : ObjOk P w H h u (mwO u x) := ⟨e, ⟨_, e⟩, fun _ _ z k => k _ z⟩
theorem mwO_at {P : Program} {w : World} {H : Hp} {h : Heap} {u x : Addr} (hok : HOk P w H h) (e : H u = some (mwO u x)) : h.get? u = some (mwr x) := by
  obtain ⟨z, _, _⟩ := hok u _ e
  exact z
section
variable {prog : Program} {w : World} {A : Around} {E : Value → Shared → Prop} {h : Heap} {g : Array GenState} {d : Drawn} {t : Nat} {os : OsState}
variable {nm q : Str} {C N : Addr} {bs bm : List Value} {hdct : Bool} {sn : List Str} {sub : List Value} {ab : Bool} {col : Option Bool} {dd : Option Addr} {k0 k1 k2 k3 k5 : Option Value}
theorem mw_call {u e t0 : Addr} {rest : List Value} {Q : Value → Shared → Prop}
    (hC : h.get? C = some (excClassObj nm q C N bs bm hdct sn sub ab col dd k0 k1 k2 k3 k5 "ValueError.__new__")) (he : h.get? e = some (HandSPX.excO C t0)) (hu : h.get? u = some (mwr e)) (hr : rest.length ≤ sizeLine)
    (hk : ∀ h' t1, (∀ b o, b ≠ e → h.get? b = some o → h'.get? b = some o) → h'.get? e = some (HandSPX.excO C t1) → Q .none ⟨h', g, d, t, os⟩) :
    wpAny (model prog w) A (call (.ref u) rest) Q E ⟨h, g, d, t, os⟩ := by
  refine wpAny_call (codeAny_of_tree ?_)
  show wpAny _ A.in1 (callAny (.ref u) ⟨rest, []⟩) _ _ ⟨h, g, d, t, os⟩
  simp only [callAny]
  refine wpAny_bind (wpAny_load hu ?_)
  simp only [PySem.W.kxs_mw, (by decide : (Value.type "method-wrapper" == Value.type "method" || Value.type "method-wrapper" == Value.type "builtin_function_or_method" || Value.type "method-wrapper" == Value.type "method-wrapper") = true), if_true]
  refine PySem.W.KFB.if_so (by decide) (wpAny_bind (ESX.check_bound PySem.F.excBase_ValueError hC he rfl (wpAny_bind (wpAny_pure (wpAny_pure ?_)))))
  refine ⟨PySem.plainId_quiet PySem.F.excBase_ValueError.init.plain _, codeAny_builtin PySem.F.excBase_ValueError.initEntry ?_⟩
  rw [Around.under_plainId PySem.F.excBase_ValueError.init.plain _]
  wp_walk
  exact hk _ h.objs.size (fun b o hb ho => (Heap.get?_update_other _ _ (Ne.symm hb)).trans (Heap.get?_push_of_some _ ho)) (by rw [Heap.get?_update_self _ (Heap.get?_push_of_some _ he) rfl]; rfl)
end
/-- what the written part says of such a class at C, its __init__ at f -/
structure SupI (P : Program) (K : PySem.W.Frag) (mg : Str → Option Value) (C f cc : Addr) (F : NF) (x : Str) : Prop where
  lk : ∃ oc od osl doc pm ctv, K.lookup f = some ⟨oc, od, .func (F.fd doc pm ctv), osl⟩
  cl : F.cl = [(("__class__" : Str), cc)]
  cell : ∃ a b s, K.lookup cc = some ⟨a, b, .cell (some (.ref C)), s⟩
  code : ∃ a b vs s file tf, K.lookup F.c = some ⟨a, b, .fields vs, s⟩ ∧ vs[2]? = some (.str file tf) ∧ (P.main.file == file) = true
  codeIn : PySem.W.codeIn K (.ref F.c) F.qual = true
  cls : ∃ cd, PySem.W.clsIn K C = some cd ∧ PySem.W.alongIn K "__init__" ((cd.mro.dropWhile (· != .ref C)).drop 1) = some (some (.builtin "ValueError.__init__"))
  self : PySem.W.mroIn K C (.ref C) = some true
  subB : PySem.W.subIn K (.ref C) (.type "ValueError") = some true
  opq : PySem.W.nsIn K cStatics "thirdparty.any" = some none
  sup : mg "super" = none
  top : (P.main.scope.names.lookup ("super" : Str)).isSome = false
  par : ∃ ar ar2, F.params.posonlyargs ++ F.params.args = [ar, ar2] ∧ ar.arg = "self"
  sc : NScope ["self", x, "__class__"] ["self", x] ["__class__"] F.scope
  supk : F.scope.names.lookup ("super" : Str) = some .globalImplicit
  bind : ∀ (doc pm ctv : Value) (us : List Value), us.length = 2 → bindArgs (F.fd doc pm ctv) ⟨us, []⟩ = pure ((["self", x] : List Str).zip us)
end Xi
namespace Xi
open PySem PySem.Spec PyProof.Rows L2 NdefX
def spI (C : Addr) (fl : Str) : Sp := fun vs H Q _ => ∃ (a : Addr) (n : Int), vs = [.ref a, .int n] ∧ 0 ≤ n ∧ n ≤ 100000 ∧ H a = some (exo a C none) ∧
  ∀ (dx : Addr) (H' : Hp), H' a = some (exo a C (some dx)) → H' dx = some (exd dx [(fl, .int n)]) → H dx = none → dx ≠ a → (∀ b o, H b = some o → b ≠ a → H' b = some o) → Q .non H'
section
variable {P : Program} {w : World} {K : PySem.W.Frag} {mg : Str → Option Value} {base : Heap} {CX : CXT}
theorem cells_cls {C f cc : Addr} {F : NF} {x : Str} {A : Around} {outer : List Env} {s : Shared} {H : Hp} (S : SupI P K mg C f cc F x) (e0 : Env0 P w K mg base A outer s H) : CellsAt F.cl ["__class__"] [none] s.heap H := by
  obtain ⟨a, b, sl, hc⟩ := S.cell
  have h1 := e0.mod.kin _ _ hc
  obtain ⟨h2, h3⟩ := e0.bs _ _ h1
  rw [S.cl]
  have lk : ∀ {y : Str} {c : Addr}, ([(("__class__" : Str), cc)] : List (Str × Addr)).lookup y = some c → y = "__class__" ∧ c = cc := fun {y c} e => by
    rw [List.lookup_cons] at e
    cases q : (y == ("__class__" : Str)) with
    | true => rw [q] at e; exact ⟨eq_of_beq q, (Option.some.inj e).symm⟩
    | false => rw [q] at e; cases e
  refine ⟨rfl, fun y c e => ?_, fun y z c e1 e2 => (lk e1).1.trans (lk e2).1.symm, fun i y e => ?_⟩
  · obtain ⟨_, rfl⟩ := lk e
    exact ⟨h3, _, _, h2, rfl⟩
  · match i, e with
    | 0, e =>
      cases e
      exact ⟨cc, rfl, fun v e => by cases e⟩
    | i + 1, e => simp at e
theorem ok_sup {C f cc : Addr} {F : NF} {x fl : Str} {k : Nat} {oc : Value} {od : Option Addr} {osl : Array (Option Value)} {doc pm ctv : Value} {msg : Expr} {tm : TE} {p0 p1 p2 p3 p4 p5 p6 p7 p8 : Pos} (T : OexC K C) (S : SupI P K mg C f cc F x)
    (lk : K.lookup f = some ⟨oc, od, .func (F.fd doc pm ctv), osl⟩) (hno : PySem.W.findIn K (.ref C) fl = some none) (hdbg : (x == ("__debug__" : Str)) = false) (hcd : (x == ("__classdict__" : Str)) = false)
    (hb : F.body = [.Expr (.Call (.Attribute (.Call (.Name "super" p0) [] [] p1) "__init__" p2) [msg] [] p3) p4, .Assign [.Attribute (.Name "self" p5) fl p6] (.Name x p7) p8])
    (hm : ∀ (A : Around) (outer : List Env) (s : Shared) (H : Hp) (E : XK), PE (ncx CX P w K mg base ["self", x, "__class__"] F f A outer s H E) msg tm)
    (hmr : ∀ (a : Addr) (n : Int) (H : Hp) (Q : VK), 0 ≤ n → n ≤ 100000 → (∀ z : Str, Q (.str z) H) → tm (startF ["self", x, "__class__"] [.ref a, .int n] [none]) H Q)
    (hs1 : ∀ env : Env, swapsWith (.Call (.Attribute (.Call (.Name "super" p0) [] [] p1) "__init__" p2) [msg] [] p3) none p4.line env = pure false) (hs2 : ∀ env : Env, swapsWith (.Name x p7) (some (.Attribute (.Name "self" p5) fl p6)) p8.line env = pure false)
    (hst : ∀ env : Env, starEach [msg] env = [(false, eval msg env)])
    (hev : ∀ env : Env, ∃ pl : Sem Bool, eval (.Call (.Attribute (.Call (.Name "super" p0) [] [] p1) "__init__" p2) [msg] [] p3) env = (do
      let ov ← attributeBase (.Call (.Name "super" p0) [] [] p1) "__init__" env (eval (.Call (.Name "super" p0) [] [] p1) env)
      standAt p2.atName
      let (f, first) ← holding [ov] (getMethod ov "__init__" pl)
      callWith p3 f first (backTo p3 (starEach [msg] env)) [])) :
    FnOk P w K mg base CX (k + 1) f (F.fd doc pm ctv) ["self", x] (spI C fl) := by
  refine ⟨fun vs H Q E h => ?_, fun A outer s H args us vs Q E hr e0 hbd r hsp => ?_⟩
  · obtain ⟨a, n, rfl, _⟩ := h
    rfl
  · obtain ⟨a, n, rfl, n0, n1, ha, hk⟩ := hsp
    have KX : K.In s.heap := e0.mod.kin.keeps fun b o e => (e0.bs b o e).1
    have lim : s.heap.NoLimit := e0.mod.nolimit.keeps fun b o e => (e0.bs b o e).1
    have hul : us.length = 2 := r.length.symm
    obtain ⟨u0, u1, rfl⟩ : ∃ u0 u1, us = [u0, u1] := by
      match us, hul with
      | [u0, u1], _ => exact ⟨u0, u1, rfl⟩
    have ru0 : u0 = .ref a := by cases r with | cons h _ => exact h
    subst ru0
    refine PySem.ks_codeAny_call_defAt hr.depth (KX _ _ lk) rfl lim (PySem.W.codeRec_of KX S.codeIn) rfl hbd S.sc.nocell (fun ⟨y, _⟩ hy => S.sc.par y (List.of_mem_zip hy).1) (fun h₁ hns kp => ?_) S.sc.co S.sc.gen S.sc.kind
    have I : Inv (ncx CX P w K mg base ["self", x, "__class__"] F f A outer s H E) [] (startF ["self", x, "__class__"] [.ref a, .int n] [none]) H { s with heap := h₁, toks := s.toks + ((["self", x] : List Str).zip [Value.ref a, u1]).length } :=
      inv_startN S.sc hr.hd e0 rfl r (cells_cls S e0) hns kp
    show PySem.wpAt (model P w) (A.deeper (envF F f s.heap.objs.size)) (.func F.body (envF F f s.heap.objs.size)) (execs F.body (envF F f s.heap.objs.size)) _ _ _
    generalize hs₁ : ({ s with heap := h₁, toks := s.toks + ((["self", x] : List Str).zip [Value.ref a, u1]).length } : Shared) = s₁ at I ⊢
    have hself : s₁.heap.Ns s.heap.objs.size fun y => ((["self", x] : List Str).zip [Value.ref a, u1]).reverse.lookup y := by rw [← hs₁]; exact hns
    clear hs₁ hns kp
    rw [hb]
    obtain ⟨pl, hpl⟩ := hev (envF F f s.heap.objs.size)
    refine PySem.ks_wpAt_execs_cons (PySem.ks_wpAt_Expr_any (PySem.ks_wpAt_MethodCall ?_ hpl) (by unfold interactive; rw [show (envF F f s.heap.objs.size).scope = F.scope from rfl, S.sc.kind]; rfl) (hs1 _))
    obtain ⟨ar, ar2, hpar, har⟩ := S.par
    obtain ⟨ca, cb, cvs, csl, file, tf, hcode, hvs, hfile⟩ := S.code
    obtain ⟨la, lb, lsl, hcell⟩ := S.cell
    obtain ⟨cd, hcl, hal⟩ := S.cls
    have X1 : K.In s₁.heap := I.kIn
    obtain ⟨oD, hD1, hD2⟩ : ∃ oD, s₁.heap.get? C = some oD ∧ oD.data = .cls cd := by
      unfold PySem.W.clsIn at hcl
      split at hcl
      · rename_i ho
        cases hcl
        exact ⟨_, X1 _ _ ho, rfl⟩
      · cases hcl
    refine PySem.ks_wpAt_super_base (env := envF F f s.heap.objs.size) S.supk (S.sc.frk _ (List.mem_singleton.mpr rfl)) (by decide) rfl (X1 _ _ lk) rfl (by rw [show (F.fd doc pm ctv).params = F.params from rfl, hpar]; rfl) rfl (X1 _ _ hcode) rfl hvs hfile S.top ?_
    obtain ⟨mb, hmb, hmb2⟩ := I.mod.blt
    refine PySem.W.ks_loadName_global S.sc.kind S.supk (Calls.loadGlobal_builtin (mg := mg) (mb := mb) (v := .type "super") (I.mod.glob.keeps I.bk) S.sup (hmb.keeps I.bk) ((hmb2 "super" (by decide)).trans (by decide +kernel)) ⟨rfl, ?_⟩)
    refine wpAny_loadName_free S.sc.kind (S.sc.frk _ (List.mem_singleton.mpr rfl)) (c := cc) (by rw [show (envF F f s.heap.objs.size).cells = F.cl from rfl, S.cl]; rfl) ⟨_, X1 _ _ hcell, rfl⟩ ?_
    rw [har]
    refine wpAny_loadName_local S.sc.kind (S.sc.par "self" List.mem_cons_self) hself (v := .ref a) ?_ ?_
    · have h1 : (x == ("self" : Str)) = false ∨ (x == ("self" : Str)) = true := by cases (x == ("self" : Str)) <;> simp
      have hne : ("self" : Str) ≠ x := by
        have q := S.sc.nd
        intro z
        rw [← z] at q
        simp at q
      exact zip_look (ps := ["self", x]) (us := [Value.ref a, u1]) (i := 0) (by simp [hne]) rfl rfl
    obtain ⟨t1, ho⟩ := exo_at I.hok ha
    obtain ⟨hh, g, d, t, os⟩ := s₁
    refine PySem.ks_wpAny_isType_cls hD1 hD2 ⟨rfl, ?_⟩
    refine PySem.ks_wpAny_call_super hD1 hD2 ho rfl (fun c e => by cases e) (PySem.W.looks_mroIn X1 S.self) (fun h2 e2 kq => ?_)
    have I1 : Inv (ncx CX P w K mg base ["self", x, "__class__"] F f A outer s H E) [] (startF ["self", x, "__class__"] [.ref a, .int n] [none]) H ⟨h2, g, d, t, os⟩ := I.kept (t' := t) kq
    have X2 : K.In h2 := I1.kIn
    have ho2 := kq _ _ ho
    have IA : PySem.W.InstAt h2 a { cls := .ref C, dict := none, data := .fields #[.ref t1, .none, .none, .none, .bool false, .none] } C none := ⟨ho2, rfl, rfl, trivial⟩
    refine PySem.W.kxs_getMethod PySem.W.kxs_ValueError e2 (PySem.W.looks_opaque X2 S.opq) (l₀ := cd.mro) ((PySem.W.looks_clsIn X2 hcl).andThen .now) rfl X2 hal (IA.type.andThen (PySem.W.looks_subIn X2 S.subB)) (PySem.W.ks_ne X2 IA hcl) rfl ?_
    have I2 := I1.laid (a := h2.objs.size) (t' := t + 1) (o := mwO h2.objs.size a) (h' := h2.push (mwr a)) (fun b o e => Heap.get?_push_of_some _ e) (Nat.le_refl _) (mwO_ok (Heap.get?_push_size _ rfl))
    have nu : H h2.objs.size = none := I1.hok.fresh (Nat.le_refl _)
    have au : a ≠ h2.objs.size := fun z => by rw [← z, ha] at nu; cases nu
    have hn2 : H (h2.objs.size) = none := nu
    generalize hu : h2.objs.size = u at I2 nu au hn2 ⊢
    have ha2 : (upd H u (mwO u a)) a = some (exo a C none) := by rw [upd_ne au]; exact ha
    have hu2 : (upd H u (mwO u a)) u = some (mwO u a) := upd_same
    generalize hH2 : upd H u (mwO u a) = H2 at I2 ha2 hu2
    refine PySem.W.kxs_callWith (i := "ValueError.__init__") (x := a) (by rw [hst]; rfl) ?_
    have hp : PA (ncx CX P w K mg base ["self", x, "__class__"] F f A outer s H E) [msg] (tCons tm tNil) := pa_cons (hm A outer s H E) pa_nil (hst _)
    have hrun := hp.run p3 [] _ _ H2 (fun vs H3 => (∃ z, vs = [V.str z]) ∧ H3 = H2) I2 (hmr a n H2 _ n0 n1 fun z => ⟨⟨z, rfl⟩, rfl⟩)
    have hst2 : starEach [msg] (ncx CX P w K mg base ["self", x, "__class__"] F f A outer s H E).env = [(false, eval msg (envF F f s.heap.objs.size))] := hst _
    rw [hst2] at hrun
    rw [hst]
    refine Calls.evalArgs_plain (thn hrun fun us3 s3 h3 => ?_)
    obtain ⟨vs3, H3, I3, r3, ⟨z, ez⟩, eH⟩ := h3
    subst ez eH
    refine ⟨mwO_at I3.hok hu2, ?_⟩
    obtain ⟨nm, q, N, bs, bm, sn, sub, ab, col, dd, k0, k1, k2, k3, k5, hC, hbm⟩ := T.cls
    obtain ⟨t3, ho3⟩ := exo_at I3.hok ha2
    have hl3 : us3.length ≤ sizeLine := by rw [← Paired.length r3]; exact (by decide : (1 : Nat) ≤ sizeLine)
    have hC3 := I3.kIn _ _ hC
    have hu3 := mwO_at I3.hok hu2
    obtain ⟨h3, g3, d3, t3', os3⟩ := s3
    refine mw_call hC3 ho3 hu3 hl3 (fun h4 t4 k4 hx4 => ?_)
    have J := I3.write (t' := t3') (x := a) (e := a) (o := exo a C none) (by rw [ha2]; exact True.intro) (.inl rfl) k4 ⟨_, hx4⟩ (exo_ok hx4)
    have eu : upd H3 a (exo a C none) = H3 := by
      funext b
      by_cases hb : b = a
      · rw [hb, upd_same, ha2]
      · rw [upd_ne hb]
    rw [eu] at J
    show PySem.wpAt _ _ _ (execs [.Assign [.Attribute (.Name "self" p5) fl p6] (.Name x p7) p8] (envF F f s.heap.objs.size)) _ _ _
    have ht : PSs (ncx CX P w K mg base ["self", x, "__class__"] F f A outer s H E) [.Assign [.Attribute (.Name "self" p5) fl p6] (.Name x p7) p8] _ :=
      pss_one (ps_ost (pe_var (i := 0) rfl (.inl (S.sc.par "self" List.mem_cons_self))) (pe_var (i := 1) rfl (.inl (S.sc.par x (List.mem_cons_of_mem _ List.mem_cons_self))) hdbg hcd) (hs2 _))
    refine wpAt_of_wpAny (wpAny_mono (ht.run [] _ _ H3 { nx := fun _ H' => Q .non H', rt := Q } J ⟨_, rfl, _, rfl, a, C, rfl, T, hno, .inl ⟨ha2, fun dx hdx hda => ?_⟩⟩) (fun fl' s' hs => ?_) fun e s' hs => hs)
    · have hdx0 : H dx = none ∧ dx ≠ u := by
        rw [← hH2] at hdx
        by_cases e : dx = u
        · rw [e, upd_same] at hdx; cases hdx
        · rw [upd_ne e] at hdx; exact ⟨hdx, e⟩
      refine hk dx _ upd_same (by rw [upd_ne hda, upd_same]) hdx0.1 hda fun b o e hba => ?_
      rw [upd_ne hba, upd_ne (ne_of_none e hdx0.1), ← hH2, upd_ne (ne_of_none e nu)]
      exact e
    · cases fl' with
      | next =>
        obtain ⟨σ', H', J', q'⟩ := hs
        exact ⟨.non, H', J'.os, J'.bare, J'.base, J'.hok, rfl, q'⟩
      | ret u =>
        obtain ⟨v, σ', H', J', rv, q'⟩ := hs
        exact ⟨v, H', J'.os, J'.bare, J'.base, J'.hok, rv, q'⟩
      | brk =>
        obtain ⟨_, _, _, q'⟩ := hs
        exact False.elim q'
      | cont =>
        obtain ⟨_, _, _, q'⟩ := hs
        exact False.elim q'
end
end Xi
namespace TG
open PySem L2 Gx
def sgB (c : Nat) : Bool := decide (32 ≤ c) && decide (c ≤ 126) && decide (c ≠ 37)
theorem sgB_iff {c : Nat} : sgB c = true ↔ SgOk c := by
  unfold sgB SgOk
  simp only [Bool.and_eq_true, decide_eq_true_eq]
  omega
def textB (z : Str) (m : Int) : Bool := decide ((z.length : Int) ≤ m) && (cl z).all sgB
/-- what is no text -/
def NoText (K : PySem.W.Frag) (H : Hp) (v : V) : Prop := ∃ nm : String, TyX K H v (.type nm) ∧ kitB nm "str" = some false
section
variable {P : Program} {w : World} {K : PySem.W.Frag} {mg : Str → Option Value} {base : Heap} {cs : List (Addr × Addr)}
def spSg2 : Sp := fun vs H Q _ => ∃ c : Nat, vs = [.str ⟨#[c]⟩] ∧ Q (.bl (sgB c)) H
theorem ok_sg2 {f : Addr} {fd : FuncData} (T : Txt mg) (N : Consts mg) (F : Fun K "is_sign" "is_sign" s_is_sign f fd) : FnOk P w K mg base CX0 1 f fd ["sign"] spSg2 := by
  refine F.ok sc_sg (fun vs H Q E h => ?_) (fun cdv A outer s H vs Q E hr h => ?_)
  · obtain ⟨c, rfl, _⟩ := h
    rfl
  · obtain ⟨c, rfl, k⟩ := h
    obtain ⟨t1, e1⟩ := N.blank
    obtain ⟨t2, e2⟩ := N.tilde
    obtain ⟨t3, e3⟩ := N.percent
    refine ⟨_, pss_one (ps_ret (pe_and (pe_chain op_le op_le (pe_glob (v := .int 32) rfl e1 ⟨_, rfl⟩) (pe_callB call_ord (by rfl) T.ord (by decide +kernel) (pa_cons (pv 0) pa_nil)) (pe_glob (v := .int 126) rfl e2 ⟨_, rfl⟩))
      (pe_one (pe_cmpR op_ne (pe_callB call_ord (by rfl) T.ord (by decide +kernel) (pa_cons (pv 0) pa_nil)) (pe_glob (v := .int 37) rfl e3 ⟨_, rfl⟩) (nomark _))))), ?_⟩
    refine ⟨_, rfl, _, rfl, rfl, 32, (c : Int), rfl, rfl, ?_⟩
    by_cases h1 : 32 ≤ c
    · refine ⟨true, dT (show (32 : Int) ≤ c by omega), iteT ⟨(c : Int), 126, rfl, rfl, ?_⟩⟩
      by_cases h2 : c ≤ 126
      · have e4 : V.bl (decide ((c : Int) ≤ 126)) = V.bl true := dT (by omega)
        refine ⟨true, e4, iteT ⟨_, rfl, _, rfl, rfl, rfl, ?_⟩⟩
        have e5 : (!decide (V.int (c : Int) = V.int 37)) = sgB c := by
          unfold sgB
          rw [decide_eq_true h1, decide_eq_true h2]
          by_cases h3 : c = 37
          · subst h3
            rfl
          · rw [decide_eq_false (show ¬ V.int (c : Int) = V.int 37 from fun z => by injection z with z; exact h3 (by omega)), decide_eq_true (show c ≠ 37 from h3)]
            rfl
        show Q (.bl (!decide (V.int (c : Int) = V.int 37))) H
        rw [e5]
        exact k
      · have e4 : V.bl (decide ((c : Int) ≤ 126)) = V.bl false := dF (by omega)
        have e5 : sgB c = false := by
          unfold sgB
          rw [decide_eq_false h2, Bool.and_false, Bool.false_and]
        rw [e5] at k
        exact ⟨false, e4, iteF k⟩
    · have e5 : sgB c = false := by
        unfold sgB
        rw [decide_eq_false h1, Bool.false_and, Bool.false_and]
      rw [e5] at k
      refine ⟨false, dF (by omega), iteF ⟨false, ?_, iteF ?_⟩⟩
      · first | rfl | exact dF (by omega)
      · exact k
def spText2 (K : PySem.W.Frag) (cs : List (Addr × Addr)) : Sp := fun vs H Q _ => ∃ (v : V) (m : Int) (b : Bool), vs = [v, .int m] ∧ Tabs cs H ∧ ((NoText K H v ∧ b = false) ∨ ∃ z, v = .str z ∧ z.length ≤ 1000 ∧ b = textB z m) ∧ ∀ H', Ex cs H H' → Q (.bl b) H'
theorem ok_text2 {f c Pt g : Addr} {fd fdg : FuncData} (T : Txt mg) (F : Fun K "is_text_of_signs" "is_text_of_signs" s_is_text f fd) (hc : fd.code = .ref c) (TB : GxR.TabB base mg c Pt) (hm : (c, Pt) ∈ cs)
    (G : FnOk P w K mg base CX0 1 g fdg ["sign"] spSg2) (kp : PySem.W.keepIn K (.ref g) = true) (bd : Binds K fdg ["sign"] []) (mgg : mg "is_sign" = some (.ref g)) : FnOk P w K mg base CX0 5 f fd ["value", "most"] (spText2 K cs) := by
  refine fun_okT F hc sc_text (fun vs H Q E h => ?_) (fun A outer s H vs Q E hr h => ?_)
  · obtain ⟨v, m, b, rfl, _⟩ := h
    rfl
  · obtain ⟨v, m, b, rfl, hT, hv, k⟩ := h
    refine ⟨_, pss_one (ps_ret (pe_and (pe_callB call_isi (by rfl) T.isin (by decide +kernel) (pa_cons (pv 0) (pa_cons (pe_bltn (v := .ty "str") (by rfl) T.str (by decide +kernel) rfl) pa_nil)))
      (pe_and (pe_cmpR op_le (pe_callB call_len_str (by rfl) T.len PySem.boot_len (pa_cons (pv 0) pa_nil)) (pv 1) (nomark _))
        (pe_one (pe_allG (k := 1) (P := Pt) hr (by rfl) T.all TB rfl ⟨rfl, rfl, by decide +kernel, by decide +kernel, rfl, rfl⟩ (pi_str (pv 0)) (fun A' code s4 H4 fp hr' => pe_call G hr' (by rfl) mgg kp bd .nil pass0 (pa_cons (pv 0) pa_nil)) (fun _ => rfl)))))), ?_⟩
    rcases hv with ⟨⟨nm, ty, hk⟩, rfl⟩ | ⟨z, rfl, h2, rfl⟩
    · exact ⟨_, rfl, _, _, _, _, false, rfl, .ty _, ty, kit_ty hk, false, rfl, iteF (k _ (Ex.refl hT))⟩
    · refine ⟨_, rfl, _, _, _, _, true, rfl, .ty _, .base (.str z), kit_ty (by decide +kernel), true, rfl, iteT ⟨_, rfl, z, rfl, line10 h2, _, rfl, _, _, rfl, rfl, ?_⟩⟩
      by_cases h1 : (z.length : Int) ≤ m
      · have hB : textB z m = (cl z).all sgB := by
          unfold textB
          rw [decide_eq_true h1, Bool.true_and]
        refine ⟨true, dT h1, iteT ⟨_, rfl, z, rfl, hT _ hm, fun H2 hH2 => ?_⟩⟩
        have x2 := Ex.tabbed hT hm hH2
        refine all_by (w := walk_str (z := z)) (fun i => match (cl z)[i]? with | some c => sgB c | none => true) (fun _ H' => Ex cs H H') x2 (fun _ _ _ _ => trivial) (fun i v H3 H4 hi x y Z hZ => ?_) (fun H3 x hall => ?_) (fun i H3 hi hff x => ?_)
        · obtain ⟨rfl, c, hc, rfl⟩ := y
          have hc2 : (cl z)[i]? = some c := by rw [Array.getElem?_toList]; exact hc
          refine ⟨_, rfl, c, rfl, ?_⟩
          have := hZ _ x
          rw [hc2] at this
          exact this
        · have e : textB z m = true := by
            rw [hB, List.all_eq_true]
            intro c hcm
            obtain ⟨i, hi, e⟩ := List.getElem_of_mem hcm
            have q := hall i (by have := len_cl z; omega)
            rw [List.getElem?_eq_getElem hi, e] at q
            exact q
          rw [← e]
          exact k _ x
        · have e : textB z m = false := by
            rw [hB, Bool.eq_false_iff]
            intro q
            rw [List.all_eq_true] at q
            have hi2 : i < (cl z).length := by have := len_cl z; omega
            rw [List.getElem?_eq_getElem hi2] at hff
            have := q _ (List.getElem_mem hi2)
            rw [show sgB (cl z)[i] = false from hff] at this
            cases this
          rw [← e]
          exact k _ x
      · have e : textB z m = false := by
          unfold textB
          rw [decide_eq_false h1, Bool.false_and]
        rw [e] at k
        exact ⟨false, dF h1, iteF (k _ (Ex.refl hT))⟩
end
end TG
namespace TG
open PySem PySem.Spec PyProof.Rows L2 NdefX GenW Gx Lv
/-- a class of errors whose begin takes a number and keeps it as the field fl -/
structure RaiseC (P : Program) (w : World) (K : PySem.W.Frag) (mg : Str → Option Value) (base : Heap) (x fl : Str) (C fI : Addr) (fdI : FuncData) : Prop where
  oex : OexC K C
  iC : PySem.W.findIn K (.ref C) "__init__" = some (some (.ref fI))
  tI : PySem.W.typeIn K (.ref fI) = some (.type "function")
  ini : FnOk P w K mg base CX0 1 fI fdI ["self", fl] (Xi.spI C fl)
  bd : Binds K fdI ["self", fl] []
  mg_ : mg x = some (.ref C)
section
variable {P : Program} {w : World} {K : PySem.W.Frag} {mg : Str → Option Value} {base : Heap} {cs : List (Addr × Addr)}
theorem _root_.Gx.Ex.kept {H H' : Hp} (t : Tabs cs H) (k : ∀ b o, H b = some o → H' b = some o) : Ex cs H H' := by
  refine ⟨fun b o h _ => k b o h, fun p hp => ?_, fun b h => ?_, fun b o h _ => k b o h⟩
  · obtain ⟨ps, h1, h2⟩ := t p hp
    exact ⟨ps, k _ _ h1, h2⟩
  · cases e : H b with
    | none => rfl
    | some o =>
      rw [k b o e] at h
      cases h
/-- what a raise of such an error asks, in short -/
theorem raise_go {fl : Str} {C : Addr} {ta : TA} {σ : L2.St} {H : Hp} {n : Int} {E : XK} (hT : Tabs cs H) (n0 : 0 ≤ n) (n1 : n ≤ 100000) (h : ∀ Q : List V → Hp → Prop, Q [.int n] H → ta σ H Q)
    (k : ∀ (d : Addr) (H' : Hp), Ex cs H H' → H d = none → H' d = some (.xd [(fl, .int n)]) → E (.ref C) (some d) H') : tMkO C (Xi.spI C fl) [] ta σ H E := by
  refine h _ ⟨by simp, fun a na => ⟨a, n, rfl, n0, n1, upd_same, fun dx H' h1 h2 h3 h4 h5 => ⟨rfl, dx, _, h1, h2, ?_, ?_⟩⟩⟩
  · rw [upd_ne h4] at h3
    exact h3
  · have hd : H dx = none := by rw [upd_ne h4] at h3; exact h3
    refine k dx _ (Ex.kept hT fun b o hb => ?_) hd upd_same
    have ha : b ≠ a := ne_of_none hb na
    have hb2 : b ≠ dx := ne_of_none hb hd
    rw [upd_ne hb2, del_ne ha]
    exact h5 b o (by rw [upd_ne ha]; exact hb) ha
end
end TG
namespace TG
open PySem PySem.Spec PyProof.Rows L2 NdefX GenW Gx Lv
section
variable {P : Program} {w : World} {K : PySem.W.Frag} {mg : Str → Option Value} {base : Heap} {cs : List (Addr × Addr)}
end
end TG
namespace TG
open PySem PySem.Spec PyProof.Rows L2 NdefX GenW Gx Lv
abbrev nfI (c cc : Addr) : NF := ⟨"__init__", "BadPage.__init__", defArgs iniL, defBody iniL, defScope iniL, [("__class__", cc)], c⟩
theorem log_ok {n : Int} (h0 : 0 ≤ n) (h1 : n ≤ 100000) : n.natAbs.log2 < 1920 := by
  by_cases h : n.natAbs = 0
  · rw [h]; decide
  · refine (Nat.log2_lt h).mpr (Nat.lt_of_lt_of_le (show n.natAbs < 2 ^ 17 by omega) (Nat.pow_le_pow_right (by decide) (by decide)))
theorem app_len (x y : Str) : (x ++ y).length = x.length + y.length := by
  have h := congrArg List.length (cl_app x y)
  rw [List.length_append] at h
  simpa [cl, Str.length] using h
section
variable {P : Program} {w : World} {K : PySem.W.Frag} {mg : Str → Option Value} {base : Heap}
theorem sc_iniL : NScope ["self", "row", "__class__"] ["self", "row"] ["__class__"] (defScope iniL) := nscope_by (by decide +kernel)
theorem ok_iniL {C f cc c : Addr} {oc : Value} {od : Option Addr} {osl : Array (Option Value)} {doc pm ctv : Value} (T : OexC K C) (S : Xi.SupI P K mg C f cc (nfI c cc) "row") (lk : K.lookup f = some ⟨oc, od, .func ((nfI c cc).fd doc pm ctv), osl⟩)
    (hno : PySem.W.findIn K (.ref C) "row" = some none) : FnOk P w K mg base CX0 1 f ((nfI c cc).fd doc pm ctv) ["self", "row"] (Xi.spI C "row") := by
  refine Xi.ok_sup (k := 0) T S lk hno (by decide +kernel) (by decide +kernel) rfl (fun A outer s H E => pe_joined (.cons pe_str (.cons (pe_fmt (pv 1)) (.cons pe_str .nil)))) (fun a n H Q n0 n1 q => ?_) (fun env => rfl) (fun env => rfl) (fun env => rfl) (fun env => ⟨_, rfl⟩)
  have l1 : (Str.empty ++ ("the page can't be from row " : Str)).length ≤ 100 := by decide +kernel
  have l2 : (Str.ofString (toString n)).length ≤ 9 := (num_ok n0 (by omega)).1
  have l3 : (" on" : Str).length = 3 := by decide +kernel
  have sz : (1000 : Nat) < sizeLine := by decide
  refine ⟨_, rfl, by omega, .int n, rfl, .inr ⟨n, rfl, log_ok n0 n1, _, rfl, ?_, _, rfl, ?_, q _⟩⟩
  · rw [app_len]
    have : (toString n : Str).length ≤ 9 := l2
    omega
  · rw [app_len, app_len]
    have : (toString n : Str).length ≤ 9 := l2
    omega
end
end TG
namespace TG
open PySem PySem.Spec PyProof.Rows L2 NdefX GenW Gx Lv
theorem oexB_ok {K : PySem.W.Frag} {C : Addr} (h : oexB K C = true) : ∃ nm q N bs bm sn sub ab col dd k0 k1 k2 k3 k5, K.lookup C = some (excClassObj nm q C N bs bm true sn sub ab col dd k0 k1 k2 k3 k5 "ValueError.__new__") ∧ PySem.HandSPX.refsVE bm = true := by
  unfold oexB at h
  split at h
  · rename_i dd cd sl ho
    split at h
    · rename_i C' bm k0 k1 k2 k3 n k5 hm hs
      simp only [Bool.and_eq_true, decide_eq_true_eq, Bool.not_eq_true'] at h
      obtain ⟨⟨e1, e2⟩, hdel, hdict, ht⟩ := h
      subst e1 e2
      obtain ⟨nm, bs, mro, ns, qn, hd, sn, sub, ab, col, del⟩ := cd
      dsimp only at hm hdel hdict
      subst hm hdel hdict
      obtain ⟨l⟩ := sl
      dsimp only at hs
      subst hs
      exact ⟨nm, qn, ns, bs, bm, sn, sub, ab, col, dd, k0, k1, k2, k3, k5, ho, ht⟩
    · cases h
  · cases h
theorem cellB_ok {K : PySem.W.Frag} {cc C : Addr} (h : cellB K cc C = true) : ∃ a b s, K.lookup cc = some ⟨a, b, .cell (some (.ref C)), s⟩ := by
  unfold cellB at h
  split at h
  · rename_i o1 o2 a sl e
    have := of_decide_eq_true h
    subst this
    exact ⟨_, _, _, e⟩
  · cases h
theorem fileB_ok {K : PySem.W.Frag} {c : Addr} {main : Str} (h : fileB K c main = true) : ∃ a b vs s file tf, K.lookup c = some ⟨a, b, .fields vs, s⟩ ∧ vs[2]? = some (.str file tf) ∧ (main == file) = true := by
  unfold fileB at h
  split at h
  · rename_i o1 o2 vs sl e
    split at h
    · rename_i file tf hv
      exact ⟨_, _, vs, _, file, tf, e, hv, h⟩
    · cases h
  · cases h
theorem supk_iniL : (defScope iniL).names.lookup ("super" : Str) = some .globalImplicit := by decide +kernel
section
variable {P : Program} {w : World} {K : PySem.W.Frag} {mg : Str → Option Value} {base : Heap}
theorem binds_ini {cdd ccl : Addr} {doc pm ctv : Value} : Binds K ((nfI cdd ccl).fd doc pm ctv) ["self", "row"] [] := by
  refine Binds.all fun us hl => ?_
  match us, hl with
  | [_, _], _ => rfl
/-- the refusals BadPage, from what the head tells -/
theorem raise_lines {h : Heap} (X : K.In h) (G : h.Ns mainGlobals mg) (e : errB P.main.file "BadPage" "row" K = true)
    (hw : iniW K "BadPage" = (some ("__init__", "BadPage.__init__", defArgs iniL, .stmts (defBody iniL), defScope iniL, mainGlobals, ["__class__"], builtinsNs) : IniW)) (hs : mg "super" = none) (ht : (P.main.scope.names.lookup ("super" : Str)).isSome = false) :
    ∃ fdI, RaiseC P w K mg base "BadPage" "row" (He.ga K "BadPage") (iniA K "BadPage") fdI := by
  obtain ⟨c1, e⟩ := He.ba e
  obtain ⟨c2, e⟩ := He.ba e
  obtain ⟨c3, e⟩ := He.ba e
  obtain ⟨c4, e⟩ := He.ba e
  obtain ⟨c5, e⟩ := He.ba e
  obtain ⟨c6, e⟩ := He.ba e
  obtain ⟨c7, e⟩ := He.ba e
  obtain ⟨c8, e⟩ := He.ba e
  obtain ⟨c9, e⟩ := He.ba e
  obtain ⟨ca, e⟩ := He.ba e
  obtain ⟨cb, e⟩ := He.ba e
  obtain ⟨cc, e⟩ := He.ba e
  obtain ⟨cd, ce⟩ := He.ba e
  have T : OexC K (He.ga K "BadPage") := ⟨oexB_ok c1, He.eqO_ok c3, of_decide_eq_true c4, of_decide_eq_true c5, c6⟩
  unfold fnB at ca
  unfold iniW at hw
  split at ca
  · rename_i oc od fd osl lk
    rw [lk] at hw
    have hw := Option.some.inj hw
    split at ca
    · rename_i cy ccl cdd hcl hcode hdef hkw han
      obtain ⟨d1, d2⟩ := He.ba ca
      obtain ⟨d4, d3⟩ := He.ba d2
      obtain ⟨name, qual, params, body, scope, globals, closure, defaults, kwd, doc, pm, ann, code, ctv, bins⟩ := fd
      simp only [Prod.mk.injEq] at hw
      obtain ⟨w1, w2, w3, w4, w5, w6, w7, w8⟩ := hw
      dsimp only at hcl hcode hdef hkw han w1 w2 w3 w4 w5 w6 w7 w8 d3
      subst hcl hcode hdef hkw han w1 w2 w3 w4 w5 w6 w8
      have w7 : cy = "__class__" := by simpa using w7
      subst w7
      have S : Xi.SupI P K mg (He.ga K "BadPage") (iniA K "BadPage") ccl (nfI cdd ccl) "row" := by
        refine ⟨⟨oc, od, osl, doc, pm, ctv, lk⟩, rfl, cellB_ok d1, fileB_ok d4, d3, ?_, of_decide_eq_true cc, of_decide_eq_true cd, He.eqO_ok ce, hs, ht, ⟨_, _, rfl, rfl⟩, sc_iniL, supk_iniL, fun doc pm ctv us hl => ?_⟩
        · unfold clsB at cb
          split at cb
          · rename_i cd2 hcd
            exact ⟨cd2, hcd, of_decide_eq_true cb⟩
          · cases cb
        · match us, hl with
          | [_, _], _ => rfl
      exact ⟨_, T, He.eqO_ok c7, of_decide_eq_true c8, ok_iniL T S lk (He.eqO_ok c9), binds_ini, PySem.W.mg_of X G (He.eqO_ok c2)⟩
    · cases ca
  · cases ca
end
end TG
namespace TG
open PySem PySem.Spec PyProof.Rows L2
section
variable (n : Nat) (fa : List He.Fa) (fn : List He.DefD) (ts : List He.Tab) (tf : List He.Defn) (ex : PySem.W.Frag → Bool) (xs : List Str) (vals : List IniW)
end
end TG
namespace TG
open PySem L2 Gx
section
variable {P : Program} {w : World} {K : PySem.W.Frag} {mg : Str → Option Value} {base : Heap} {cs : List (Addr × Addr)}
end
end TG
namespace TG
open PySem L2 Gx
section
variable {P : Program} {w : World} {K : PySem.W.Frag} {mg : Str → Option Value} {base : Heap} {cs : List (Addr × Addr)}
end
end TG
namespace TG
open PySem PySem.Spec PyProof.Rows L2 NdefX GenW Gx Lv
section
variable {P : Program} {w : World} {K : PySem.W.Frag} {mg : Str → Option Value} {base : Heap} {cs : List (Addr × Addr)}
end
end TG
namespace TG
open PySem PySem.Spec PyProof.Rows L2
abbrev cellF (o : Obj) : HO := .frz o (.own 0)
def addC (H : Hp) (cl : List (Addr × Obj)) : Hp := fun b => match cl.lookup b with
  | some o => some (cellF o)
  | none => H b
def delC (H : Hp) (cl : List (Addr × Obj)) : Hp := fun b => match cl.lookup b with
  | some _ => none
  | none => H b
theorem addC_in {H : Hp} {cl : List (Addr × Obj)} {b : Addr} {o : Obj} (h : cl.lookup b = some o) : addC H cl b = some (cellF o) := by unfold addC; rw [h]
theorem addC_out {H : Hp} {cl : List (Addr × Obj)} {b : Addr} (h : cl.lookup b = none) : addC H cl b = H b := by unfold addC; rw [h]
theorem delC_in {H : Hp} {cl : List (Addr × Obj)} {b : Addr} {o : Obj} (h : cl.lookup b = some o) : delC H cl b = none := by unfold delC; rw [h]
theorem delC_out {H : Hp} {cl : List (Addr × Obj)} {b : Addr} (h : cl.lookup b = none) : delC H cl b = H b := by unfold delC; rw [h]
section
variable {P : Program} {w : World}
theorem objOk_congr {H1 H2 : Hp} {h : Heap} {a : Addr} (k : ∀ b o, H1 b = some o → (∀ u v, o ≠ .frz u v) → H2 b = some o) : ∀ u : HO, ObjOk P w H1 h a u → ObjOk P w H2 h a u
  | .lst _, x => x
  | .tup _, x => x
  | .dK _, x => x
  | .dT _, ⟨x1, x2, xs, x3, x4⟩ => ⟨x1, x2, xs, x3.mono fun p q ⟨e1, e2, e3⟩ => ⟨e1, k _ _ e2 (fun u v z => by cases z), e3⟩, x4⟩
  | .set _ _, x => x
  | .ins _ _ _, ⟨x1, x2⟩ => ⟨k _ _ x1 (fun u v z => by cases z), x2⟩
  | .own _, x => x
  | .xd _, x => x
  | .rng _ _, x => x
  | .frz _ u, ⟨x1, x2⟩ => ⟨x1, objOk_congr k u x2⟩
  | .tbl _, x => x
  | .met _ _, x => x
  | .ext _, x => x
/-- the cells stand as they are told, and were untold -/
structure CellsIn (cl : List (Addr × Obj)) (base : Heap) (fs : List Addr) (h : Heap) : Prop where
  at_ : ∀ c o, cl.lookup c = some o → h.get? c = some o ∧ base.get? c = none ∧ c ∉ fs
theorem hok_add {H : Hp} {h : Heap} {cl : List (Addr × Obj)} (hk : HOk P w H h) (n : ∀ c o, cl.lookup c = some o → H c = none ∧ h.get? c = some o) : HOk P w (addC H cl) h := fun a o e => by
  cases q : cl.lookup a with
  | some u =>
    rw [addC_in q] at e
    cases e
    exact ⟨(n a u q).2, ⟨u, (n a u q).2⟩⟩
  | none =>
    rw [addC_out q] at e
    refine objOk_congr (fun b v hb _ => ?_) o (hk a o e)
    cases r : cl.lookup b with
    | some u => rw [(n b u r).1] at hb; cases hb
    | none => rw [addC_out r]; exact hb
theorem hok_del {H : Hp} {h : Heap} {cl : List (Addr × Obj)} (hk : HOk P w H h) (n : ∀ c o, cl.lookup c = some o → H c = some (cellF o)) : HOk P w (delC H cl) h := fun a o e => by
  cases q : cl.lookup a with
  | some u => rw [delC_in q] at e; cases e
  | none =>
    rw [delC_out q] at e
    refine objOk_congr (fun b v hb nf => ?_) o (hk a o e)
    cases r : cl.lookup b with
    | some u =>
      rw [n b u r] at hb
      cases hb
      exact absurd rfl (nf _ _)
    | none => rw [delC_out r]; exact hb
variable {K : PySem.W.Frag} {mg : Str → Option Value} {base : Heap} {A : Around} {outer : List Env} {s s' : Shared}
/-- told of: as a callee finds it -/
theorem env_add {H : Hp} {cl : List (Addr × Obj)} (e0 : Env0 P w K mg base A outer s H) (C : CellsIn cl base (frs outer) s.heap) (n : ∀ c o, cl.lookup c = some o → H c = none) : Env0 P w K mg base A outer s (addC H cl) := by
  refine ⟨e0.frames, e0.mod, fun b o hb => ⟨(e0.bs b o hb).1, ?_⟩, e0.bsz, e0.funs, fun b hb => ?_, hok_add e0.hok fun c o q => ⟨n c o q, (C.at_ c o q).1⟩, e0.bare⟩
  · cases r : cl.lookup b with
    | some u => rw [(C.at_ b u r).2.1] at hb; cases hb
    | none => rw [addC_out r]; exact (e0.bs b o hb).2
  · cases r : cl.lookup b with
    | some u => exact absurd hb (C.at_ b u r).2.2
    | none => rw [addC_out r]; exact e0.frf b hb
/-- untold of: as the frame that has the cells finds it -/
theorem env_del {H : Hp} {cl : List (Addr × Obj)} (e0 : Env0 P w K mg base A outer s H) (n : ∀ c o, cl.lookup c = some o → H c = some (cellF o)) : Env0 P w K mg base A outer s (delC H cl) := by
  refine ⟨e0.frames, e0.mod, fun b o hb => ⟨(e0.bs b o hb).1, ?_⟩, e0.bsz, e0.funs, fun b hb => ?_, hok_del e0.hok n, e0.bare⟩
  · cases r : cl.lookup b with
    | some u => exact delC_in r
    | none => rw [delC_out r]; exact (e0.bs b o hb).2
  · cases r : cl.lookup b with
    | some u => exact delC_in r
    | none => rw [delC_out r]; exact e0.frf b hb
theorem un_del {fs : List Addr} {H H' : Hp} {h h' : Heap} {cl : List (Addr × Obj)} (u : Un fs [] (addC H cl) H' h h') (hk : HOk P w H' h') (n : ∀ c o, cl.lookup c = some o → H c = none ∧ h.get? c = some o ∧ c ∉ fs) : Un fs [] H (delC H' cl) h h' := by
  have told : ∀ c o, cl.lookup c = some o → H' c = some (cellF o) := fun c o q => u.frzs c o _ (addC_in q)
  have out : ∀ {b : Addr} {o : HO}, H b = some o → cl.lookup b = none := fun {b o} hb => by
    cases r : cl.lookup b with
    | some v => rw [(n b v r).1] at hb; cases hb
    | none => rfl
  refine ⟨fun b o hb nb hf hx => ?_, fun b o hb nb hf hx => ?_, fun b o hb nb hx => ?_, fun b o hb hx => u.there b o hb hx, fun b xs hb => ?_, fun b o v hb => ?_, fun b ps hb => ?_⟩
  · cases r : cl.lookup b with
    | some v =>
      rw [(n b v r).2.1] at hb
      cases hb
      exact (hk b _ (told b _ r)).1
    | none => exact u.keep b o hb (by rw [addC_out r]; exact nb) hf hx
  · cases r : cl.lookup b with
    | some v => exact absurd hf (n b v r).2.2
    | none => exact u.slot b o hb (by rw [addC_out r]; exact nb) hf hx
  · cases r : cl.lookup b with
    | some v => exact delC_in r
    | none => rw [delC_out r]; exact u.free b o hb (by rw [addC_out r]; exact nb) hx
  · rw [delC_out (out hb)]
    exact u.tups b xs (by rw [addC_out (out hb)]; exact hb)
  · rw [delC_out (out hb)]
    exact u.frzs b o v (by rw [addC_out (out hb)]; exact hb)
  · obtain ⟨more, q⟩ := u.tbls b ps (by rw [addC_out (out hb)]; exact hb)
    exact ⟨more, by rw [delC_out (out hb)]; exact q⟩
/-- back from a callee that was told of the cells -/
theorem ce_del {H : Hp} {cl : List (Addr × Obj)} {Q : VK} {u : Value} (C : CellsIn cl base (frs outer) s.heap) (n : ∀ c o, cl.lookup c = some o → H c = none) (h : CE outer P w (addC H cl) s (fun v H' => (∀ c o, cl.lookup c = some o → H' c = some (cellF o)) → Q v (delC H' cl)) u s') : CE outer P w H s Q u s' := by
  obtain ⟨v, H', h1, h2, un, hk, r, q⟩ := h
  have told : ∀ c o, cl.lookup c = some o → H' c = some (cellF o) := fun c o e => un.frzs c o _ (addC_in e)
  exact ⟨v, delC H' cl, h1, h2, un_del un hk (fun c o e => ⟨n c o e, (C.at_ c o e).1, (C.at_ c o e).2.2⟩), hok_del hk told, r, q told⟩
theorem un_add {fs : List Addr} {H H' : Hp} {h h' : Heap} {cl : List (Addr × Obj)} (u : Un fs [] (delC H cl) H' h h') (n : ∀ c o, cl.lookup c = some o → H c = some (cellF o) ∧ h.get? c = some o ∧ c ∉ fs) : Un fs [] H (addC H' cl) h h' := by
  have frz : ∀ {b : Addr} {o : HO}, H b = some o → (∀ a v, o ≠ .frz a v) → cl.lookup b = none := fun {b o} hb nf => by
    cases r : cl.lookup b with
    | some v =>
      rw [(n b v r).1] at hb
      cases hb
      exact absurd rfl (nf _ _)
    | none => rfl
  refine ⟨fun b o hb nb hf hx => ?_, fun b o hb nb hf hx => ?_, fun b o hb nb hx => ?_, fun b o hb hx => u.there b o hb hx, fun b xs hb => ?_, fun b o v hb => ?_, fun b ps hb => ?_⟩
  · cases r : cl.lookup b with
    | some v => rw [(n b v r).1] at nb; cases nb
    | none => exact u.keep b o hb (by rw [delC_out r]; exact nb) hf hx
  · cases r : cl.lookup b with
    | some v => rw [(n b v r).1] at nb; cases nb
    | none => exact u.slot b o hb (by rw [delC_out r]; exact nb) hf hx
  · cases r : cl.lookup b with
    | some v => rw [(n b v r).1] at nb; cases nb
    | none => rw [addC_out r]; exact u.free b o hb (by rw [delC_out r]; exact nb) hx
  · have r := frz hb fun a v z => by cases z
    rw [addC_out r]
    exact u.tups b xs (by rw [delC_out r]; exact hb)
  · cases r : cl.lookup b with
    | some q =>
      rw [(n b q r).1] at hb
      rw [addC_in r]
      exact hb
    | none =>
      rw [addC_out r]
      exact u.frzs b o v (by rw [delC_out r]; exact hb)
  · have r := frz hb fun a v z => by cases z
    obtain ⟨more, q⟩ := u.tbls b ps (by rw [delC_out r]; exact hb)
    exact ⟨more, by rw [addC_out r]; exact q⟩
/-- behind the frame that has the cells: they are told of again -/
theorem ce_add {H : Hp} {cl : List (Addr × Obj)} {Q : VK} {u : Value} (hk0 : HOk P w H s.heap) (n : ∀ c o, cl.lookup c = some o → H c = some (cellF o) ∧ c ∉ frs outer) (h : CE outer P w (delC H cl) s (fun v H' => (∀ c o, cl.lookup c = some o → H' c = none) → Q v (addC H' cl)) u s') : CE outer P w H s Q u s' := by
  obtain ⟨v, H', h1, h2, un, hk, r, q⟩ := h
  have at0 : ∀ c o, cl.lookup c = some o → s.heap.get? c = some o := fun c o e => (hk0 c _ (n c o e).1).1
  refine ⟨v, addC H' cl, h1, h2, un_add un fun c o e => ⟨(n c o e).1, at0 c o e, (n c o e).2⟩, hok_add hk fun c o e => ?_, r, q fun c o e => un.free c o (at0 c o e) (delC_in e) (by simp)⟩
  exact ⟨un.free c o (at0 c o e) (delC_in e) (by simp), un.keep c o (at0 c o e) (delC_in e) (n c o e).2 (by simp)⟩
theorem cx_add {H : Hp} {cl : List (Addr × Obj)} {E : XK} {u : Value} (hk0 : HOk P w H s.heap) (n : ∀ c o, cl.lookup c = some o → H c = some (cellF o) ∧ c ∉ frs outer) (h : L2.CX P w outer (delC H cl) s (fun cls d H' => (∀ c o, cl.lookup c = some o → H' c = none) → E cls d (addC H' cl)) u s') : L2.CX P w outer H s E u s' := by
  obtain ⟨a, B, H', cls, d, e1, fly, hk, ub, na, h1, h2, q⟩ := h
  have at0 : ∀ c o, cl.lookup c = some o → s.heap.get? c = some o := fun c o e => (hk0 c _ (n c o e).1).1
  have atB : ∀ c o, cl.lookup c = some o → B.get? c = some o := fun c o e => ub.keep c o (at0 c o e) (delC_in e) (n c o e).2
  have frz : ∀ {b : Addr} {o : HO}, H b = some o → (∀ a v, o ≠ .frz a v) → cl.lookup b = none := fun {b o} hb nf => by
    cases r : cl.lookup b with
    | some v =>
      rw [(n b v r).1] at hb
      cases hb
      exact absurd rfl (nf _ _)
    | none => rfl
  refine ⟨a, B, addC H' cl, cls, d, e1, fly, hok_add hk fun c o e => ⟨ub.free c o (at0 c o e) (delC_in e), atB c o e⟩, ⟨fun b o hb nb hf => ?_, ub.slot, fun b o hb nb => ?_, ub.there, fun b xs hb => ?_, fun b o v hb => ?_, fun b ps hb => ?_⟩, ?_, h1, h2, q fun c o e => ub.free c o (at0 c o e) (delC_in e)⟩
  · cases r : cl.lookup b with
    | some v => rw [(n b v r).1] at nb; cases nb
    | none => exact ub.keep b o hb (by rw [delC_out r]; exact nb) hf
  · cases r : cl.lookup b with
    | some v => rw [(n b v r).1] at nb; cases nb
    | none => rw [addC_out r]; exact ub.free b o hb (by rw [delC_out r]; exact nb)
  · have r := frz hb fun a v z => by cases z
    rw [addC_out r]
    exact ub.tups b xs (by rw [delC_out r]; exact hb)
  · cases r : cl.lookup b with
    | some q =>
      rw [(n b q r).1] at hb
      rw [addC_in r]
      exact hb
    | none =>
      rw [addC_out r]
      exact ub.frzs b o v (by rw [delC_out r]; exact hb)
  · have r := frz hb fun a v z => by cases z
    obtain ⟨more, q⟩ := ub.tbls b ps (by rw [delC_out r]; exact hb)
    exact ⟨more, by rw [addC_out r]; exact q⟩
  · cases r : cl.lookup a with
    | some v =>
      have z := fly.2.1
      rw [atB a v r] at z
      cases z
    | none => rw [addC_out r]; exact na
end
end TG
namespace TG
open PySem PySem.Spec PyProof.Rows L2 NdefX GenW Gx Lv
/-- the captured names' cells, told of, hold these values -/
structure Caught (F : NF) (fr : List Str) (ws : List (Option V)) (cl : List (Addr × Obj)) (H : Hp) : Prop where
  len : ws.length = fr.length
  told : ∀ c o, cl.lookup c = some o → H c = some (cellF o)
  all : ∀ y c, F.cl.lookup y = some c → ∃ o v, cl.lookup c = some o ∧ o.data = .cell v
  inj : ∀ x y c, F.cl.lookup x = some c → F.cl.lookup y = some c → x = y
  has : ∀ (i : Nat) (y : Str), fr[i]? = some y → ∃ c, F.cl.lookup y = some c ∧ ∀ v, ws[i]? = some (some v) → ∃ o u, cl.lookup c = some o ∧ o.data = .cell (some u) ∧ RelV v u
section
variable {P : Program} {w : World} {K : PySem.W.Frag} {mg : Str → Option Value} {base : Heap}
structure LOkX (P : Program) (w : World) (K : PySem.W.Frag) (mg : Str → Option Value) (base : Heap) (k : Nat) (f : Addr) (F : NF) (e : Expr) (sp : Sp) : Prop where
  run : ∀ (A : Around) (outer : List Env) (s : Shared) (H : Hp) (Q : VK) (E : XK), Room k A → Env0 P w K mg base A outer s H → H f = some (FnL f F e) → H F.c = some (LamX.CodeO F.c F.qual) → sp [] H Q E →
    codeAny (model P w) A (.call (.ref f) ⟨[], []⟩) (CR (L2.CX P w) outer P w H s Q E) s
theorem lokx_of {k : Nat} {f : Addr} {F : NF} {e : Expr} {N fr : List Str} {sp : Sp} (S : NScope N [] fr F.scope) (hb : ∀ (pm ctv : Value), bindArgs (PySem.W.kla_fn F.name F.qual F.params e F.scope F.cl pm (.ref F.c) ctv) ⟨[], []⟩ = pure [])
    (hbody : ∀ (A : Around) (outer : List Env) (s : Shared) (H : Hp) (Q : VK) (E : XK), Room k (A.deeper (envF F f s.heap.objs.size)) → sp [] H Q E → ∃ (ws : List (Option V)) (cl : List (Addr × Obj)) (t : TE), Caught F fr ws cl H ∧
      PE (ncx (L2.CX P w) P w K mg base N F f A outer s (delC H cl) (fun cls d H' => (∀ c o, cl.lookup c = some o → H' c = none) → E cls d (addC H' cl))) e t ∧ t (startF N [] ws) (delC H cl) (fun v H' => (∀ c o, cl.lookup c = some o → H' c = none) → Q v (addC H' cl))) :
    LOkX P w K mg base (k + 1) f F e sp := by
  refine ⟨fun A outer s H Q E hr e0 hf hc hsp => ?_⟩
  have lim : s.heap.NoLimit := e0.mod.nolimit.keeps fun b o q => (e0.bs b o q).1
  obtain ⟨od, sl, pm, ctv, ho⟩ := fnL_at e0.hok hf
  obtain ⟨ws, cl, t, C, ht, hq⟩ := hbody A outer s H Q E (hr.deeper _) hsp
  have hnf : ∀ c o, cl.lookup c = some o → c ∉ frs outer := fun c o q hb => by
    have z := e0.frf c hb
    rw [C.told c o q] at z
    cases z
  have at0 : ∀ c o, cl.lookup c = some o → s.heap.get? c = some o := fun c o q => (e0.hok c _ (C.told c o q)).1
  refine codeAny_mono (R := CR (L2.CX P w) outer P w (delC H cl) s (fun v H' => (∀ c o, cl.lookup c = some o → H' c = none) → Q v (addC H' cl)) (fun cls d H' => (∀ c o, cl.lookup c = some o → H' c = none) → E cls d (addC H' cl))) ?_ fun r s' q => ?_
  · have e1 := env_del e0 C.told
    refine PySem.W.kla_callFunE hr.depth ho rfl S.co S.gen rfl (codeO_at e0.hok hc) ?_
    rw [hb pm ctv]
    refine wpAny_pure (wpAny_newFunctionEnv S.nocell (fun ⟨n, _⟩ hy => by cases hy) (fun h₁ hns hsb => ⟨lim.fresh _ hsb, ?_⟩) S.kind)
    have kp : ∀ b o, s.heap.get? b = some o → h₁.get? b = some o := fun b o q => hsb.extBut b o (Nat.ne_of_lt (Heap.lt_size q)) (Heap.get?_push_of_some _ q)
    have CA : NdefX.CellsAt F.cl fr ws s.heap (delC H cl) := by
      refine ⟨C.len, fun y c q => ?_, C.inj, fun i y q => ?_⟩
      · obtain ⟨o, v, h1, h2⟩ := C.all y c q
        exact ⟨delC_in h1, v, o, at0 c o h1, h2⟩
      · obtain ⟨c, h1, h2⟩ := C.has i y q
        refine ⟨c, h1, fun v hv => ?_⟩
        obtain ⟨o, u, h3, h4, h5⟩ := h2 v hv
        exact ⟨u, h5, o, at0 c o h3, h4⟩
    have I := inv_startN (CX := L2.CX P w) (P := P) (w := w) (E := fun cls d H' => (∀ c o, cl.lookup c = some o → H' c = none) → E cls d (addC H' cl)) (f := f) (tk := s.toks + (([] : List Str).zip ([] : List Value)).length) S hr.hd e1 (vs := []) (us := []) rfl .nil CA hns kp
    refine PySem.W.kla_codeExpr (wpAny_mono (ht.run [] _ (startF N [] ws) (delC H cl) _ I hq) (fun v s' q => ?_) fun e' s' q => q)
    obtain ⟨w', H', J, rv, q⟩ := q
    exact ⟨w', H', J.os, J.bare, J.base, J.hok, rv, q⟩
  · cases r with
    | error er => exact cx_add e0.hok (fun c o q => ⟨C.told c o q, hnf c o q⟩) q
    | ok fl =>
      cases fl with
      | ret u => exact ce_add e0.hok (fun c o q => ⟨C.told c o q, hnf c o q⟩) q
      | next => exact False.elim q
      | brk => exact False.elim q
      | cont => exact False.elim q
end
end TG
namespace TG
open PySem PySem.Spec PyProof.Rows L2 NdefX GenW Gx Lv
structure ToldC (cells : List (Str × Addr)) (N names : List Str) (σ : L2.St) (cl : List (Addr × Obj)) : Prop where
  all : ∀ y ∈ names, ∃ c o v, cells.lookup y = some c ∧ cl.lookup c = some o ∧ o.data = .cell v
  val : ∀ y ∈ names, ∀ c o, cells.lookup y = some c → cl.lookup c = some o → ∀ (i : Nat) (v : V), N[i]? = some y → σ[i]? = some (some v) → ∃ u, o.data = .cell (some u) ∧ RelV v u
  inj : ∀ y z c, cells.lookup y = some c → cells.lookup z = some c → y = z
theorem cells_list {h : Heap} {cells : List (Str × Addr)} : ∀ names : List Str, (∀ y ∈ names, ∃ c v, cells.lookup y = some c ∧ h.IsCell c v) →
    ∃ cl : List (Addr × Obj), (∀ c o, cl.lookup c = some o → h.get? c = some o ∧ ∃ y ∈ names, cells.lookup y = some c) ∧ ∀ y ∈ names, ∀ c, cells.lookup y = some c → ∃ o, cl.lookup c = some o
  | [], _ => ⟨[], ⟨fun c o e => by simp at e, fun y hy => by simp at hy⟩⟩
  | y :: names, k => by
    obtain ⟨cl, h1, h2⟩ := cells_list names fun z hz => k z (List.mem_cons_of_mem _ hz)
    obtain ⟨c, v, e1, o, e2, _⟩ := k y List.mem_cons_self
    refine ⟨(c, o) :: cl, fun c' o' e => ?_, fun z hz c' e => ?_⟩
    · rw [List.lookup_cons] at e
      by_cases q : c' = c
      · rw [q, beq_self_eq_true] at e
        cases e
        rw [q]
        exact ⟨e2, y, List.mem_cons_self, e1⟩
      · rw [beq_false_of_ne q] at e
        obtain ⟨g1, z, hz, g2⟩ := h1 c' o' e
        exact ⟨g1, z, List.mem_cons_of_mem _ hz, g2⟩
    · rw [List.lookup_cons]
      by_cases q : c' = c
      · rw [q, beq_self_eq_true]
        exact ⟨o, rfl⟩
      · rw [beq_false_of_ne q]
        rcases List.mem_cons.mp hz with r | r
        · rw [r, e1] at e
          exact absurd (Option.some.inj e).symm q
        · exact h2 z r c' e
def tCallC (cells : List (Str × Addr)) (N names : List Str) (sp : Sp) (t : TA) : TE := fun σ H Q => t σ H fun vs H1 => ∀ cl : List (Addr × Obj), ToldC cells N names σ cl → (∀ c o, cl.lookup c = some o → H1 c = none) →
  sp vs (addC H1 cl) (fun v H' => (∀ c o, cl.lookup c = some o → H' c = some (cellF o)) → Q v (delC H' cl)) (fun _ _ _ => False)
theorem pe_callC {X : Cx} {names : List Str} {k : Nat} {f : Addr} {fd : FuncData} {ps : List Str} {sp : Sp} {x : Str} {p pos : Pos} {e : Expr} {es : List Expr} {t : TA} (F : FnOk X.prog X.w X.K X.mg X.base CX0 k f fd ps sp) (hr : Room k X.A) (hg : Gl X x) (hm : X.mg x = some (.ref f)) (hk : PySem.W.keepIn X.K (.ref f) = true) (hb : Binds X.K fd ps [])
    (hfn : ∀ y ∈ names, X.fn y = true) (hcell : ∀ y ∈ names, X.env.kindOf y = some .cell) (ha : PA X (e :: es) t) (hdb : (x == ("__debug__" : Str)) = false := by decide) (he : starEach (e :: es) X.env = (false, eval e X.env) :: starEach es X.env := by rfl) (hpl : (backTo pos (starEach es X.env)).any (·.1) = false := by rfl) :
    PE X (.Call (.Name x p) (e :: es) [] pos) (tCallC X.env.cells X.N names sp t) := by
  refine ⟨fun pins s σ H Q I h => ?_⟩
  refine wpAny_Call_Name_kw (ld_glob I hg hm ?_ hdb)
  refine PySem.W.callWith_K (h₀ := X.base) I.ok.mod.kin hk (thn (ha.run pos pins s σ H _ I h) fun us s1 ⟨vs, H1, I1, r, q⟩ => ⟨I1.kIn, ?_⟩) he hpl
  show wpAny _ _ (call (.ref f) us) _ _ _
  have has : ∀ y ∈ names, ∃ c v, X.env.cells.lookup y = some c ∧ s1.heap.IsCell c v := fun y hy => by
    obtain ⟨c, hc⟩ := I1.ok.has y (.inl (hcell y hy))
    obtain ⟨v, hv⟩ := I1.cell y c hc
    exact ⟨c, v, hc, hv⟩
  obtain ⟨cl, c1, c2⟩ := cells_list names has
  have un : ∀ c o, cl.lookup c = some o → H1 c = none := fun c o e => by
    obtain ⟨_, y, _, hc⟩ := c1 c o e
    exact I1.freeC y c hc
  have C : CellsIn cl X.base (frs X.stack) s1.heap := ⟨fun c o e => by
    obtain ⟨g1, y, hy, hc⟩ := c1 c o e
    have ge := I1.ok.cab y c (hfn y hy) hc
    refine ⟨g1, ?_, fun hin => ?_⟩
    · cases z : X.base.get? c with
      | none => rfl
      | some u => exact absurd (Nat.lt_of_lt_of_le (Heap.lt_size (I1.ok.bs c u z).1) ge) (Nat.lt_irrefl _)
    · rcases List.mem_cons.mp (I1.stkSub c hin) with z | z
      · obtain ⟨m, hn, _⟩ := I1.loc
        obtain ⟨v, o2, q1, q2⟩ := I1.cell y c hc
        rw [z] at q1
        obtain ⟨o3, es3, ep3, q3, q4, _⟩ := hn
        rw [q1] at q3
        cases q3
        rw [q2] at q4
        cases q4
      · obtain ⟨_, o2, q1, _⟩ := I1.ok.funs.mem z
        exact absurd (Nat.lt_of_lt_of_le (Heap.lt_size q1) ge) (Nat.lt_irrefl _)⟩
  have T : ToldC X.env.cells X.N names σ cl := by
    refine ⟨fun y hy => ?_, fun y hy c o hc ho i v hN hs => ?_, I1.ok.inj⟩
    · obtain ⟨c, hc⟩ := I1.ok.has y (.inl (hcell y hy))
      obtain ⟨v, o2, q1, q2⟩ := I1.cell y c hc
      obtain ⟨o, ho⟩ := c2 y hy c hc
      have z := (c1 c o ho).1
      rw [q1] at z
      cases z
      exact ⟨c, _, v, hc, ho, q2⟩
    · obtain ⟨m, hn, loc⟩ := I1.loc
      obtain ⟨u, ru, lk⟩ := loc i y v hN hs (.inr (.inl (hcell y hy)))
      rcases lk with ⟨z, _⟩ | ⟨_, c', hc', o2, q1, q2⟩
      · rw [hcell y hy] at z; cases z
      · rw [hc] at hc'
        cases hc'
        have z := (c1 c o ho).1
        rw [q1] at z
        cases z
        exact ⟨u, q2, ru⟩
  have sq := q cl T un
  have hl : (us ++ []).length = ps.length := by rw [List.append_nil, ← r.length]; exact F.len _ _ _ _ sq
  have e1 := env_add I1.env0 C un
  have bd := hb s1 us I1.kIn hl
  rw [List.append_nil] at bd
  refine wpAny_call (codeAny_mono (F.run X.A X.stack s1 (addC H1 cl) ⟨us, []⟩ us vs _ _ hr e1 bd r sq) fun r' s' hq => ?_)
  cases r' with
  | error er => exact False.elim hq
  | ok fl =>
    cases fl with
    | ret u => exact I1.after (ce_del C un hq)
    | next => exact False.elim hq
    | brk => exact False.elim hq
    | cont => exact False.elim hq
end TG
namespace TG
open PySem PySem.Spec PyProof.Rows L2 NdefX GenW Gx Lv
/-- the reading of a lambda that captures cells of the frame -/
def tLamC (P : Addr) (q : Str) (params : Arguments) (body : Expr) (scope : Scope) (cl : List (Str × Addr)) : TE := fun _ H Q => LamX.TabS H P q ∧ ∀ (f c' : Addr) (H1 : Hp), (∀ b o, H b = some o → b ≠ P → H1 b = some o) → (∀ b, H1 b = none → H b = none) → LamX.TabS H1 P q → H f = none →
  H1 f = some (FnL f ⟨"<lambda>", q, params, [], scope, cl, c'⟩ body) → H1 c' = some (LamX.CodeO c' q) → Q (.ref f) H1
theorem pe_lamC {X : Cx} {c P : Addr} {params : Arguments} {body : Expr} {scope : Scope} {pos : Pos} (B : LamX.TabB X.base X.mg c P) (hcode : X.env.code = .ref c) (hdef : defaultsOf params X.env = ([], []))
    (hfr : ∀ y ∈ scope.names, y.2 = .free → X.env.kindOf y.1 = some .cell ∨ X.env.kindOf y.1 = some .free) :
    PE X (.Lambda params body scope pos) (tLamC P (X.env.qual ++ "<lambda>") params body scope (cloFrom X.env.cells scope.names [])) := by
  refine ⟨fun pins s σ H Q I h => ?_⟩
  obtain ⟨hT, h⟩ := h
  exact lam_val I B hcode hT hdef (fun y hy e => I.ok.has _ (hfr y hy e)) fun f c' H1 s' J k1 k2 t1 nf hf hc => ⟨.ref f, H1, J, rfl, h f c' H1 k1 k2 t1 nf hf hc⟩
end TG
namespace TG
open PySem PySem.Spec PyProof.Rows L2
end TG
namespace TG
open PySem PySem.Spec PyProof.Rows L2
end TG
namespace TGK
open TG
open PySem PySem.Spec PyProof.Rows L2 Gx
/-! ### places of this text -/
abbrev s_check_number : Stmt := top 54
abbrev s_check_fits : Stmt := top 55
abbrev s_check_row : Stmt := top 32
abbrev s_pmoved : Stmt := top 56
abbrev s_row_spots : Stmt := top 60
abbrev s_page_spots : Stmt := top 61
abbrev nSheet : Nat := 53
end TGK

namespace EnT
open PySem PySem.Spec PyProof.Rows L2
/-! ### enumerate over a tuple -/
theorem newClass_enum (v : Value) : Builtin.SmallTypes.newClass "enumerate" { pos := [Value.type "enumerate", v] } = pure (Value.type "enumerate", [v]) := by
  simp [Builtin.SmallTypes.newClass, show isType (Value.type "enumerate") = pure true from rfl, sub_enumerate]
theorem meets_enum1 (v : Value) (o : Obj) (H : Heap → Prop) (b : Begins v o H) : Meets (Builtin.«enumerate.__new__» { pos := [Value.type "enumerate", v] }) fun _ R s =>
    H s.heap ∧ R (Except.ok (Flow.ret (Value.ref (s.heap.push o).objs.size))) { heap := (s.heap.push o).push { cls := Value.type "enumerate", data := Data.fields #[Value.none, Value.bool false, Value.ref s.heap.objs.size, rawInt 0, Value.none, Value.none] }, gens := s.gens, drawn := s.drawn, toks := s.toks, os := s.os } := by
  intro prog w A R s ⟨h1, h2⟩
  unfold Builtin.«enumerate.__new__»
  rw [newClass_enum]
  refine wpAny_bind (wpAny_pure ?_)
  simp only [beq_self_eq_true, if_true]
  have key : ∀ s' : Shared, s' = s → wpAny (model prog w) A.in1 (do
      let __do_lift ← pyIter v
      let __do_lift ← Builtin.SmallTypes.newRecord (Value.type "enumerate") (Builtin.SmallTypes.ownedTupleFields ++ [__do_lift, rawInt 0, Value.none, Value.none])
      ret __do_lift) (fun fin s' => match fin with
          | Fin.done f => R (Except.ok f) s'
          | Fin.again c' => c'.quiet = true ∧ codeAny (model prog w) A c' R s') (fun e s' => R (Except.error e) s') s' := by
    rintro s' rfl
    refine wpAny_bind (b.iter prog w A.in1 _ s' _ h1 (wpAny_bind ?_))
    refine wpAny_newObj_type (T := "enumerate") (data := Data.fields #[Value.none, Value.bool false, Value.ref s'.heap.objs.size, rawInt 0, Value.none, Value.none]) (dict := none) ?_
    exact wpAny_pure h2
  refine wpAny_bind ?_
  unfold Builtin.SmallTypes.calledThroughType
  refine wpAny_bind (wpAny_stack fun st _ _ _ => ?_)
  refine wpAny_pure ?_
  exact iteInduction (motive := fun m => wpAny (model prog w) A.in1 m _ _ s) (fun _ => key s rfl) (fun _ => key s rfl)
theorem ao1 (obj v : Value) : argsOk "object.__init__" { pos := obj :: [v] } := by
  constructor <;> rfl
theorem call_enum1 {prog : Program} {w : World} {A : Around} {E : Value → Shared → Prop} {s : Shared} {v : Value} {o : Obj} {H : Heap → Prop} {Q : Value → Shared → Prop} (b : Begins v o H) (h : H s.heap)
    (k : ∀ h' : Heap, IsEnum h' (s.heap.objs.size + 1) s.heap.objs.size 0 Value.none → h'.get? s.heap.objs.size = some o → h'.objs.size = s.heap.objs.size + 2 → (∀ (b : Addr) (o : Obj), s.heap.get? b = some o → h'.get? b = some o) →
      Q (.ref (s.heap.objs.size + 1)) { s with heap := h' }) : wpAny (model prog w) A (call (Value.type "enumerate") [v]) Q E s := by
  have e1 : (s.heap.push o).objs.size = s.heap.objs.size + 1 := Array.size_push ..
  refine callType_new F.called_enumerate (by decide) (F.typeCall_enumerate_1 v) (F.newCall_enumerate_1 v) (fun obj => ao1 obj v) F.entry_enumerate_new (meets_enum1 v o H b) ⟨h, ?_⟩
  have n1 : ∀ (b : Addr) (u : Obj), s.heap.get? b = some u → (s.heap.push o).get? b = some u := fun b u q => Heap.get?_push_of_some _ q
  have g1 : (s.heap.push o).get? s.heap.objs.size = some o := Heap.get?_push_size _ b.free
  have g2 : ((s.heap.push o).push { cls := Value.type "enumerate", data := Data.fields #[Value.none, Value.bool false, Value.ref s.heap.objs.size, rawInt 0, Value.none, Value.none] }).get? (s.heap.push o).objs.size = some { cls := Value.type "enumerate", data := Data.fields #[Value.none, Value.bool false, Value.ref s.heap.objs.size, rawInt 0, Value.none, Value.none] } := Heap.get?_push_size _ rfl
  refine ⟨⟨_, g2, rfl⟩, ?_⟩
  rw [e1] at g2 ⊢
  exact k _ g2 (Heap.get?_push_of_some _ g1) (by show (Array.push _ _).size = _; rw [Array.size_push]; show (s.heap.objs.push o).size + 1 = _; rw [Array.size_push]) fun b u q => Heap.get?_push_of_some _ (n1 b u q)
/-- as Ite, over a tuple -/
def Itet (K : PySem.W.Frag) (a : Addr) : It where
  go := fun i H => ∃ xs x, SqT K H a xs ∧ xs[i]? = some x
  yld := fun i H v H' => ∃ (T : Addr) (x : V), v = .ref T ∧ H T = none ∧ H' = upd H T (.tup [.int (i : Nat), x]) ∧ ∀ xs : List V, SqT K H a xs → xs[i]? = some x
  stop := fun i H => ∃ xs, SqT K H a xs ∧ xs.length = i
theorem vals_get {xs : List V} {us : List Value} (h : Vals xs us) : ∀ {i : Nat} {x : V} {u : Value}, xs[i]? = some x → us.toArray[i]? = some u → RelV x u := by
  induction h with
  | nil => intro i x u e _; cases e
  | cons r _ ih =>
    intro i x u e1 e2
    cases i with
    | zero =>
      simp at e1 e2
      rw [← e1, ← e2]
      exact r
    | succ i =>
      simp at e1 e2
      exact ih e1 (by simpa using e2)
theorem turn_enumT {P : Program} {w : World} {K : PySem.W.Frag} {elts : List Expr} {kk : Nat} {tpos : Pos} (a e it : Addr) (nei : e ≠ it) (nai : a ≠ it) (nae : a ≠ e) :
    Turn P w K (.Tuple elts kk tpos) (Itet K a) [e, it] e fun i h => (∃ old, IsEnum h e it (i : Nat) old) ∧ h.IsTupleIter it a i := by
  have hni : e ∉ [it, a] := fun z => by
    simp only [List.mem_cons, List.not_mem_nil, or_false] at z
    rcases z with z | z
    · exact nei z
    · exact nae z.symm
  refine ⟨List.mem_cons_self, fun i h hh b hb => ?_, fun i h h' hh k => ?_, ?_, ?_, fun A i s Q E hh q => ?_⟩
  · obtain ⟨⟨old, h1⟩, o, h2, h3, h4⟩ := hh
    simp only [List.mem_cons, List.not_mem_nil, or_false] at hb
    rcases hb with rfl | rfl
    · exact ⟨_, h1, fun v z => by cases z⟩
    · exact ⟨o, h2, fun v z => by rw [h4] at z; cases z⟩
  · obtain ⟨⟨old, h1⟩, o, h2, h3⟩ := hh
    exact ⟨⟨old, k e (by simp) _ h1⟩, o, k it (by simp) _ h2, h3⟩
  · intro X hP hw hK hc i pins s σ H E I hfp hh hgo
    subst hP hw hK
    obtain ⟨⟨old, hE⟩, hI⟩ := hh
    obtain ⟨xs, x, hS, hx⟩ := hgo
    obtain ⟨its, hv, ht, hl⟩ := I.tuple hS
    have W := WalksT.enumerateD (Draws.tuple (prog := X.prog) (w := X.w) (A := X.A.in1) (I.ok.hd hc) it a nai its.toArray) e nei hni (by simp)
    have hlen := hv.length
    have hi : i < xs.length := (List.getElem?_eq_some_iff.mp hx).1
    refine W.item i s _ E (by simp; omega) ⟨⟨old, hE⟩, hI, ht⟩ fun T vals h' tk hPt hsz hT hMid hk => ⟨_, rfl, ?_⟩
    refine W.go elts kk tpos i T _ _ E hMid fun h'' hSt hk2 => ?_
    obtain ⟨t, u, hu, rfl⟩ := hPt
    have hTn : H T = none := I.hok.fresh hsz
    have hTw := W.apart i T h' hMid
    have hT2 : h''.IsTuple T #[.int (i : Nat) t, u] := by
      obtain ⟨o, q1, q2⟩ := hT
      exact ⟨o, hk2 T o hTw q1, q2⟩
    refine ⟨.ref T, upd H T (.tup [.int (i : Nat), x]), I.turnedNew (ch := [e, it]) (fun b o hb q => hk2 b o hb (hk b o hb q)) hfp hsz ?_, rfl, ⟨T, x, rfl, hTn, rfl, fun ys hy => ?_⟩, ⟨hSt.1, hSt.2.1⟩, fun b hb => ?_⟩
    · simp only [ObjOk]
      exact ⟨by show 2 ≤ sizeLine; decide, [_, _], .cons ⟨t, rfl⟩ (.cons (vals_get hv hx hu) .nil), hT2⟩
    · rw [I.tuple_inj hy hS]; exact hx
    · rw [upd_ne fun z : b = T => hTw (by rw [← z]; exact hb)]
      exact (hfp b hb).1
  · intro X hP hw hK hc i pins s σ H E I hfp hh hst
    subst hP hw hK
    obtain ⟨⟨old, hE⟩, hI⟩ := hh
    obtain ⟨xs, hS, rfl⟩ := hst
    obtain ⟨its, hv, ht, hl⟩ := I.tuple hS
    have W := WalksT.enumerateD (Draws.tuple (prog := X.prog) (w := X.w) (A := X.A.in1) (I.ok.hd hc) it a nai its.toArray) e nei hni (by simp)
    have hlen := hv.length
    have en : its.toArray.size = xs.length := by simp; omega
    rw [en] at W
    exact W.done s _ E ⟨⟨old, hE⟩, hI, ht⟩ fun h' tk hk => ⟨rfl, I.turnedL (ch := [e, it]) hk hfp⟩
  · obtain ⟨⟨old, hE⟩, _⟩ := hh
    exact wpAny_pyIter_enum hE q
def iEnumT (K : PySem.W.Frag) (te : TE) : TI := fun σ H R => te σ H fun v H1 => ∃ a xs, v = .ref a ∧ SqT K H1 a xs ∧ R (Itet K a) H1
theorem pi_enumT {X : Cx} {e : Expr} {te : TE} {p pos tpos : Pos} {elts : List Expr} {kk : Nat} (hg : Gl X "enumerate") (hm : X.mg "enumerate" = none) (he : PE X e te) (hs : starEach [e] X.env = [(false, eval e X.env)] := by rfl) :
    PI X (.Tuple elts kk tpos) (.Call (.Name "enumerate" p) [e] [] pos) (iEnumT X.K te) := by
  refine ⟨fun pins s σ H R I h => ?_⟩
  refine wpAny_Call_Name_kw (ld_blt I hg hm boot_enumerate ?_)
  rw [hs]
  refine callWith_type1 (thn (he.run pins s σ H _ I h) fun v s1 ⟨x, H1, I1, r, a, xs, ex, hS, hR⟩ => ?_)
  subst ex
  obtain rfl : v = .ref a := r
  obtain ⟨its, hv, ht, hl⟩ := I1.tuple hS
  refine call_enum1 (begins_tuple a its.toArray) ht fun h' hE hit hsz hk => ?_
  have ha : a < s1.heap.objs.size := by
    obtain ⟨o, q, _⟩ := ht
    exact Heap.lt_size q
  refine wpAny_pyIter_enum hE ⟨s1.heap.objs.size + 1, [s1.heap.objs.size + 1, s1.heap.objs.size], _, Itet X.K a, H1, rfl, I1.kept hk, turn_enumT a (s1.heap.objs.size + 1) s1.heap.objs.size (Nat.succ_ne_self _) (Nat.ne_of_lt ha) (Nat.ne_of_lt (Nat.lt_succ_of_lt ha)), ⟨⟨_, hE⟩, _, hit, rfl, rfl⟩, fun b hb => ?_, hR⟩
  simp only [List.mem_cons, List.not_mem_nil, or_false] at hb
  rcases hb with rfl | rfl
  · exact I1.fpOk (Nat.le_succ _) (I1.hok.fresh (Nat.le_succ _))
  · exact I1.fpOk (Nat.le_refl _) (I1.hok.fresh (Nat.le_refl _))
theorem walk_enumT {K : PySem.W.Frag} {a : Addr} {xs : List V} : Walk (Itet K a) xs.length (fun H => SqT K H a xs) (YPair (fun i => some (.int (i : Nat))) fun i => xs[i]?) := by
  refine ⟨fun i H hi h => ?_, fun H h => ⟨xs, h, rfl⟩, fun i H x H' hi h hy => ?_⟩
  · exact ⟨xs, xs[i], h, List.getElem?_eq_getElem hi⟩
  · obtain ⟨T, v, rfl, hn, rfl, hx⟩ := hy
    exact ⟨T, _, v, rfl, hn, rfl, rfl, hx xs h⟩
end EnT

namespace TGK
open TG
open PySem PySem.Spec PyProof.Rows L2 Gx EnT
/-! ### comprehensions of two for's -/
abbrev InW (J1 : It) (g1 : TG) (tt1 : TT) (te : TE) (vs1 : List Nat) (σ2 : L2.St) (D : Addr) (H4 : Hp) (Nx : Hp → Prop) : Prop := ∃ W1 : Nat → Nat → Hp → Prop, (∃ m, W1 0 m H4) ∧ ∀ (j k : Nat) (H : Hp), W1 j k H → J1.stop j H ∧ Nx H ∨ J1.go j H ∧ ∃ Nx1 : Hp → Prop, (∀ H', Nx1 H' → ∃ k', k' < k ∧ W1 (j + 1) k' H') ∧
  ∀ (x : V) (H' : Hp), J1.yld j H x H' → g1 x (wipe σ2 vs1) H' fun σ3 H5 => wipe σ3 vs1 = wipe σ2 vs1 ∧ tt1 σ3 H5 fun b H6 => if b = true then te σ3 H6 fun y H7 => ∃ acc, H7 D = some (.lst acc) ∧ acc.length < sizeLine ∧ Nx1 (upd H7 D (.lst (acc ++ [y]))) else Nx1 H6
theorem lc2_in {J1 : It} {n1 : Nat} {G1 : Hp → Prop} {Y1 : Nat → Hp → V → Hp → Prop} (w : Walk J1 n1 G1 Y1) {g1 : TG} {tt1 : TT} {te : TE} {vs1 : List Nat} {σ2 : L2.St} {D : Addr} {H4 : Hp} {Nx : Hp → Prop} (Pv : Nat → Hp → Prop) (h0 : Pv 0 H4) (hg : ∀ i H, i ≤ n1 → Pv i H → G1 H)
    (hs : ∀ (j : Nat) (x : V) (H H' : Hp), j < n1 → Pv j H → Y1 j H x H' → g1 x (wipe σ2 vs1) H' fun σ3 H5 => wipe σ3 vs1 = wipe σ2 vs1 ∧ tt1 σ3 H5 fun b H6 => if b = true then te σ3 H6 fun y H7 => ∃ acc, H7 D = some (.lst acc) ∧ acc.length < sizeLine ∧ Pv (j + 1) (upd H7 D (.lst (acc ++ [y]))) else Pv (j + 1) H6)
    (hd : ∀ H, Pv n1 H → Nx H) : InW J1 g1 tt1 te vs1 σ2 D H4 Nx := by
  refine ⟨fun j k H => j ≤ n1 ∧ k = n1 - j ∧ Pv j H, ⟨_, Nat.zero_le _, rfl, h0⟩, fun j k H ⟨h1, h2, h3⟩ => ?_⟩
  by_cases h : j = n1
  · subst h
    exact .inl ⟨w.stops H (hg _ H (Nat.le_refl _) h3), hd H h3⟩
  · have hj : j < n1 := by omega
    exact .inr ⟨w.goes j H hj (hg j H h1 h3), Pv (j + 1), fun H' q => ⟨n1 - (j + 1), by omega, hj, rfl, q⟩, fun x H' hy => hs j x H H' hj h3 (w.yields j H x H' hj (hg j H h1 h3) hy)⟩
theorem lc2_it {J : It} {n : Nat} {G : Hp → Prop} {Y : Nat → Hp → V → Hp → Prop} (w : Walk J n G Y) {wi1 : TI} {g g1 : TG} {tt tt1 : TT} {te : TE} {vs vs1 : List Nat} {σ : L2.St} {H1 : Hp} {D : Addr} {Qd : Hp → Prop} (Pv : Nat → Hp → Prop) (h0 : Pv 0 (upd H1 D (.lst []))) (hg : ∀ i H, i ≤ n → Pv i H → G H)
    (hs : ∀ (i : Nat) (x : V) (H H' : Hp), i < n → Pv i H → Y i H x H' → g x (wipe σ vs) H' fun σ2 H2 => wipe σ2 vs = wipe σ vs ∧ tt σ2 H2 fun b H3 => if b = true then wi1 σ2 H3 fun J1 H4 => InW J1 g1 tt1 te vs1 σ2 D H4 (Pv (i + 1)) else Pv (i + 1) H3)
    (hd : ∀ H, Pv n H → Qd H) :
    ∃ W : Nat → Nat → Hp → Prop, (∃ m, W 0 m (upd H1 D (.lst []))) ∧ ∀ (i m : Nat) (H : Hp), W i m H → J.stop i H ∧ Qd H ∨ J.go i H ∧ ∃ Nx : Hp → Prop, (∀ H', Nx H' → ∃ m', m' < m ∧ W (i + 1) m' H') ∧
      ∀ (x : V) (H' : Hp), J.yld i H x H' → g x (wipe σ vs) H' fun σ2 H2 => wipe σ2 vs = wipe σ vs ∧ tt σ2 H2 fun b H3 => if b = true then wi1 σ2 H3 fun J1 H4 => InW J1 g1 tt1 te vs1 σ2 D H4 Nx else Nx H3 := by
  refine ⟨fun i m H => i ≤ n ∧ m = n - i ∧ Pv i H, ⟨_, Nat.zero_le _, rfl, h0⟩, fun i m H ⟨h1, h2, h3⟩ => ?_⟩
  by_cases h : i = n
  · subst h
    exact .inl ⟨w.stops H (hg _ H (Nat.le_refl _) h3), hd H h3⟩
  · have hi : i < n := by omega
    exact .inr ⟨w.goes i H hi (hg i H h1 h3), Pv (i + 1), fun H' q => ⟨n - (i + 1), by omega, hi, rfl, q⟩, fun x H' hy => hs i x H H' hi h3 (w.yields i H x H' hi (hg i H h1 h3) hy)⟩
/-! ### a list of new tuples -/
structure TupL (H0 : Hp) (D : Addr) (l : List (List V)) (H : Hp) : Prop where
  sm : Same H0 H
  nD : H0 D = none
  ts : ∃ ts : List Addr, H D = some (.lst (ts.map V.ref)) ∧ ts.length = l.length ∧ ∀ (j : Nat) (t : Addr) (v : List V), ts[j]? = some t → l[j]? = some v → H t = some (.tup v)
theorem TupL.start {H0 : Hp} {D : Addr} (n : H0 D = none) : TupL H0 D [] (upd H0 D (.lst [])) := ⟨same_new n, n, [], upd_same, rfl, fun j t v h => by cases h⟩
theorem TupL.grow {H0 H H' : Hp} {D : Addr} {l : List (List V)} (o : TupL H0 D l H) (x : Same H H') : TupL H0 D l H' := by
  obtain ⟨ts, h1, h2, h3⟩ := o.ts
  exact ⟨fun b u e => x b u (o.sm b u e), o.nD, ts, x _ _ h1, h2, fun j t v e1 e2 => x _ _ (h3 j t v e1 e2)⟩
theorem TupL.more {H0 H : Hp} {D t : Addr} {l : List (List V)} {v : List V} (o : TupL H0 D l H) (ht : H t = some (.tup v)) : ∃ acc, H D = some (.lst acc) ∧ acc.length = l.length ∧ TupL H0 D (l ++ [v]) (upd H D (.lst (acc ++ [.ref t]))) := by
  obtain ⟨ts, h1, h2, h3⟩ := o.ts
  have tD : ∀ {t : Addr} {v : List V}, H t = some (.tup v) → t ≠ D := fun {t v} h z => by rw [z, h1] at h; cases h
  refine ⟨_, h1, by rw [List.length_map, h2], fun b u e => by rw [upd_ne (ne_of_none e o.nD)]; exact o.sm b u e, o.nD, ts ++ [t], by rw [upd_same]; simp, by rw [List.length_append, List.length_append, h2]; rfl, fun j s u e1 e2 => ?_⟩
  by_cases hj : j < ts.length
  · rw [List.getElem?_append_left hj] at e1
    rw [List.getElem?_append_left (by rw [← h2]; exact hj)] at e2
    have := h3 j s u e1 e2
    rw [upd_ne (tD this)]
    exact this
  · have hl := (List.getElem?_eq_some_iff.mp e1).1
    rw [List.length_append, List.length_singleton] at hl
    have ej : j = ts.length := by omega
    subst ej
    rw [List.getElem?_append_right (Nat.le_refl _), Nat.sub_self] at e1
    rw [h2, List.getElem?_append_right (Nat.le_refl _), Nat.sub_self] at e2
    cases e1
    cases e2
    rw [upd_ne (tD ht)]
    exact ht
/-! ### places -/
def rowSp (r : List Str) : List (Nat × Nat) := (List.range r.length).flatMap fun c => (List.range ((r.getD c nilS).length + 1)).map fun k => (c, k)
def pageSp (rows : List (List Str)) : List (Nat × Nat × Nat) := (List.range rows.length).flatMap fun i => (rowSp (rows.getD i [])).map fun p => (i, p.1, p.2)
abbrev v2 (p : Nat × Nat) : List V := [.int (p.1 : Nat), .int (p.2 : Nat)]
abbrev v3 (p : Nat × Nat × Nat) : List V := [.int (p.1 : Nat), .int (p.2.1 : Nat), .int (p.2.2 : Nat)]
def rowTo (r : List Str) (n : Nat) : List (Nat × Nat) := (List.range n).flatMap fun c => (List.range ((r.getD c nilS).length + 1)).map fun k => (c, k)
def pageTo (rows : List (List Str)) (n : Nat) : List (Nat × Nat × Nat) := (List.range n).flatMap fun i => (rowSp (rows.getD i [])).map fun p => (i, p.1, p.2)
theorem rowTo_succ (r : List Str) (n : Nat) : rowTo r (n + 1) = rowTo r n ++ (List.range ((r.getD n nilS).length + 1)).map fun k => (n, k) := by
  unfold rowTo
  rw [List.range_succ, List.flatMap_append]
  simp
theorem pageTo_succ (rows : List (List Str)) (n : Nat) : pageTo rows (n + 1) = pageTo rows n ++ (rowSp (rows.getD n [])).map fun p => (n, p.1, p.2) := by
  unfold pageTo
  rw [List.range_succ, List.flatMap_append]
  simp
theorem rowSp_len {r : List Str} (h : RowOk r) : ∀ {n : Nat}, n ≤ r.length → (rowTo r n).length ≤ 11 * n
  | 0, _ => by simp [rowTo]
  | n + 1, hn => by
    have ih := rowSp_len h (n := n) (by omega)
    have hc : n < r.length := by omega
    have := (h.cells _ (List.getElem_mem hc)).len
    have e : r.getD n nilS = r[n] := by rw [List.getD_eq_getElem?_getD, List.getElem?_eq_getElem hc]; rfl
    rw [rowTo_succ, List.length_append, List.length_map, List.length_range, e]
    omega
theorem pageSp_len {rows : List (List Str)} (h : PgOk rows) : ∀ {n : Nat}, n ≤ rows.length → (pageTo rows n).length ≤ 66 * n
  | 0, _ => by simp [pageTo]
  | n + 1, hn => by
    have ih := pageSp_len h (n := n) (by omega)
    have hc : n < rows.length := by omega
    have hr := h.rows _ (List.getElem_mem hc)
    have e : rows.getD n [] = rows[n] := by rw [List.getD_eq_getElem?_getD, List.getElem?_eq_getElem hc]; rfl
    have h1 := rowSp_len hr (Nat.le_refl _)
    have h2 := hr.len
    have h3 : rowSp rows[n] = rowTo rows[n] rows[n].length := rfl
    rw [pageTo_succ, List.length_append, List.length_map, e, h3]
    omega
theorem mem_rowSp {r : List Str} {c k : Nat} : (c, k) ∈ rowSp r ↔ c < r.length ∧ k ≤ (r.getD c nilS).length := by
  unfold rowSp
  rw [List.mem_flatMap]
  constructor
  · rintro ⟨a, h1, h2⟩
    obtain ⟨b, h3, h4⟩ := List.mem_map.mp h2
    injection h4 with h4 h5
    subst h4 h5
    rw [List.mem_range] at h1 h3
    exact ⟨h1, by omega⟩
  · rintro ⟨h1, h2⟩
    exact ⟨c, List.mem_range.mpr h1, List.mem_map.mpr ⟨k, List.mem_range.mpr (by omega), rfl⟩⟩
theorem mem_pageSp {rows : List (List Str)} {p : Nat × Nat × Nat} : p ∈ pageSp rows ↔ p.1 < rows.length ∧ (p.2.1, p.2.2) ∈ rowSp (rows.getD p.1 []) := by
  unfold pageSp
  rw [List.mem_flatMap]
  constructor
  · rintro ⟨a, h1, h2⟩
    obtain ⟨b, h3, rfl⟩ := List.mem_map.mp h2
    exact ⟨List.mem_range.mp h1, h3⟩
  · rintro ⟨h1, h2⟩
    exact ⟨p.1, List.mem_range.mpr h1, List.mem_map.mpr ⟨_, h2, rfl⟩⟩
theorem rowSp_nd (r : List Str) : (rowSp r).Nodup := by
  unfold rowSp
  refine List.pairwise_flatMap.mpr ⟨fun c _ => ?_, ?_⟩
  · rw [List.pairwise_map]
    refine List.nodup_range.imp fun h z => ?_
    injection z with _ z
    exact h z
  · refine List.nodup_range.imp fun h x hx y hy z => ?_
    obtain ⟨k, _, rfl⟩ := List.mem_map.mp hx
    obtain ⟨k', _, rfl⟩ := List.mem_map.mp hy
    injection z with z _
    exact h z
theorem pageSp_nd (rows : List (List Str)) : (pageSp rows).Nodup := by
  unfold pageSp
  refine List.pairwise_flatMap.mpr ⟨fun i _ => ?_, ?_⟩
  · rw [List.pairwise_map]
    refine (rowSp_nd _).imp fun {a b} h z => h ?_
    injection z with _ z
  · refine List.nodup_range.imp fun h x hx y hy z => ?_
    obtain ⟨k, _, rfl⟩ := List.mem_map.mp hx
    obtain ⟨k', _, rfl⟩ := List.mem_map.mp hy
    injection z with z _
    exact h z
/-- of one row's places those that are let by -/
theorem page_filter {rows : List (List Str)} {i : Nat} (hi : i < rows.length) (f : Nat × Nat → Bool) : (pageSp rows).filter (fun p => decide (p.1 = i) && f p.2) = ((rowSp (rows.getD i [])).filter f).map fun p => (i, p.1, p.2) := by
  have key : ∀ n, (pageTo rows n).filter (fun p => decide (p.1 = i) && f p.2) = if i < n then ((rowSp (rows.getD i [])).filter f).map fun p => (i, p.1, p.2) else [] := by
    intro n
    induction n with
    | zero => rfl
    | succ n ih =>
      rw [pageTo_succ, List.filter_append, ih, List.filter_map]
      by_cases h : n = i
      · subst h
        rw [if_neg (Nat.lt_irrefl _), if_pos (Nat.lt_succ_self _), List.nil_append]
        refine congrArg _ (List.filter_congr fun p _ => ?_)
        simp
      · have e : (rowSp (rows.getD n [])).filter ((fun p : Nat × Nat × Nat => decide (p.1 = i) && f p.2) ∘ fun p : Nat × Nat => (n, p.1, p.2)) = [] := by
          rw [List.filter_eq_nil_iff]
          intro p _
          simp [h]
        rw [e, List.map_nil, List.append_nil]
        by_cases h2 : i < n
        · rw [if_pos h2, if_pos (by omega)]
        · rw [if_neg h2, if_neg (by omega)]
  have := key rows.length
  rw [if_pos hi] at this
  exact this
end TGK

namespace EnT
open PySem PySem.Spec PyProof.Rows L2
/-! ### enumerate(zip(xs, ys)) over two lists -/
section
variable {prog : Program} {w : World} {A : Around} {E : Value → Shared → Prop} {s : Shared}
abbrev ZipU (h : Heap) (z TI TO : Addr) (p q : Value) : Prop := h.get? z = some { cls := .type "zip", dict := none, data := .fields #[p, q, .bool false, .ref TI, .ref TO], slots := #[] }
/-- a zip between two turns: its tuple is in, or out (and perhaps let go) -/
def ZipAt (h : Heap) (z TI TO i1 i2 l1 l2 : Addr) (i : Nat) : Prop := (ZipU h z TI TO .none (.bool false) ∨ ∃ (T : Addr) (f : Bool), ZipU h z TI TO (rawInt T) (.bool f)) ∧ IsPair h TI (.ref i1) (.ref i2) ∧ (∃ x y, IsPair h TO x y) ∧ h.IsListIter i1 l1 i ∧ h.IsListIter i2 l2 i
theorem tuple_gone {z TI TO T : Addr} {f : Bool} {R : Bool → Shared → Prop} (zz : ZipU s.heap z TI TO (rawInt T) (.bool f)) (no : s.heap.get? T = none) (k : R true s) : wpAny (model prog w) A (Builtin.SmallTypes.ownedTupleIsFree (.ref z)) R E s := by
  unfold Builtin.SmallTypes.ownedTupleIsFree
  refine wpAny_bind (wpAny_field zz rfl (x := rawInt T) rfl ?_)
  show wpAny _ _ (loadIfAlive ((T : Int).toNat) >>= _) _ _ s
  rw [Int.toNat_natCast]
  have gone : ∀ {R' : Option Obj → Shared → Prop}, R' none s → wpAny (model prog w) A (loadIfAlive T) R' E s := fun {R'} q => by
    have q' : R' (s.heap.get? T) s := by rw [no]; exact q
    exact fun _ _ _ => q'
  refine wpAny_bind (gone ?_)
  simp only [Option.isNone_none, if_true]
  exact wpAny_pure k
theorem zip_item_any {z TI TO i1 i2 l1 l2 : Addr} {k1 k2 : Nat} {xs ys : Array Value} {x y a b p q : Value} {Q : Value → Shared → Prop} (D : ZipApart z TI TO i1 i2 l1 l2)
    (zz : ZipU s.heap z TI TO p q) (fr : ∀ R : Bool → Shared → Prop, R true s → wpAny (model prog w) A (Builtin.SmallTypes.ownedTupleIsFree (.ref z)) R E s) (pI : IsPair s.heap TI (.ref i1) (.ref i2)) (pO : IsPair s.heap TO a b)
    (t1 : s.heap.IsListIter i1 l1 k1) (t2 : s.heap.IsListIter i2 l2 k2) (m1 : s.heap.IsList l1 xs) (m2 : s.heap.IsList l2 ys) (gx : xs[k1]? = some x) (gy : ys[k2]? = some y)
    (hQ : ∀ h', IsZip h' z TI TO (rawInt s.heap.objs.size) → IsPair h' TO x y → h'.IsListIter i1 l1 (k1 + 1) → h'.IsListIter i2 l2 (k2 + 1) → IsPair h' s.heap.objs.size x y → h'.objs.size = s.heap.objs.size + 1 →
      (∀ c o, c ≠ z → c ≠ TO → c ≠ i1 → c ≠ i2 → s.heap.get? c = some o → h'.get? c = some o) → Q (.ref s.heap.objs.size) { s with heap := h' }) :
    wpAny (model prog w) A (Builtin.«zip.__next__» ⟨[.ref z], []⟩) (fun fin s' => ∃ v, fin = .done (.ret v) ∧ Q v s') E s := by
  show wpAny _ _ (field (.ref z) 2 >>= _) _ _ s
  refine wpAny_bind (wpAny_field zz rfl (x := .bool false) rfl ?_)
  show wpAny _ _ (field (.ref z) 3 >>= _) _ _ s
  refine wpAny_bind (wpAny_field zz rfl (x := .ref TI) rfl ?_)
  refine wpAny_bind (wpAny_seqItems pI rfl ?_)
  show wpAny _ _ (Builtin.SmallTypes.ownedTupleIsFree (.ref z) >>= _) _ _ s
  refine wpAny_bind (fr _ ?_)
  simp only [if_true]
  refine wpAny_bind (wpAny_rule (wpAny_bind (wpAny_field zz rfl (x := .ref TO) rfl ?_)))
  refine wpAny_bind (wpAny_setField_rec zz (by simp) fun g1 z1 s1 => ?_)
  replace z1 : ZipU g1 z TI TO .ellipsis q := z1
  refine wpAny_bind ?_
  simp only [List.zipIdx_cons, List.zipIdx_nil, List.forIn_cons, List.forIn_nil]
  refine wpAny_bind (wpAny_bind (wpAny_onRaise ?_))
  show wpAny _ _ (Builtin.SmallTypes.nextOf (.ref i1) >>= _) _ _ { s with heap := g1 }
  refine wpAny_bind (wpAny_nextOf_list_item (s := { s with heap := g1 }) (t1.extBut s1.extBut D.i1z) (m1.extBut s1.extBut D.l1z) gx fun g2 u1 s2 => wpAny_pure ?_)
  have o2 : IsPair g2 TO a b := s2.extBut _ _ D.TOi1 (s1.extBut _ _ D.TOz pO)
  refine wpAny_bind (wpAny_seqItems (s := { s with heap := g2 }) o2 rfl (wpAny_bind (wpAny_updateSeq_pair (s := { s with heap := g2 }) o2 fun g3 o3 s3 => ?_)))
  replace o3 : IsPair g3 TO x b := o3
  refine wpAny_bind (wpAny_letGo (wpAny_pure (wpAny_bind (wpAny_bind (wpAny_onRaise ?_)))))
  show wpAny _ _ (Builtin.SmallTypes.nextOf (.ref i2) >>= _) _ _ { s with heap := g3 }
  refine wpAny_bind (wpAny_nextOf_list_item (s := { s with heap := g3 }) (((t2.extBut s1.extBut D.i2z).extBut s2.extBut D.i12.symm).extBut s3.extBut D.TOi2.symm) (((m2.extBut s1.extBut D.l2z).extBut s2.extBut D.l2i1).extBut s3.extBut D.l2TO) gy fun g4 u2 s4 => wpAny_pure ?_)
  have o4 : IsPair g4 TO x b := s4.extBut _ _ D.TOi2 o3
  refine wpAny_bind (wpAny_seqItems (s := { s with heap := g4 }) o4 rfl (wpAny_bind (wpAny_updateSeq_pair (s := { s with heap := g4 }) o4 fun g5 o5 s5 => ?_)))
  replace o5 : IsPair g5 TO x y := o5
  refine wpAny_bind (wpAny_letGo (wpAny_pure (wpAny_pure (wpAny_bind (wpAny_seqItems (s := { s with heap := g5 }) o5 rfl (wpAny_bind (wpAny_newTuple ?_)))))))
  have z5 : ZipU g5 z TI TO .ellipsis q := s5.extBut _ _ D.TOz.symm (s4.extBut _ _ D.i2z.symm (s3.extBut _ _ D.TOz.symm (s2.extBut _ _ D.i1z.symm z1)))
  have sz5 : g5.objs.size = s.heap.objs.size := by rw [s5.1, s4.1, s3.1, s2.1, s1.1]
  have up5 : ∀ c o, c ≠ z → c ≠ TO → c ≠ i1 → c ≠ i2 → s.heap.get? c = some o → g5.get? c = some o := fun c o c1 c2 c3 c4 e => s5.extBut _ _ c2 (s4.extBut _ _ c4 (s3.extBut _ _ c2 (s2.extBut _ _ c3 (s1.extBut _ _ c1 e))))
  have v1 : g5.IsListIter i1 l1 (k1 + 1) := ((u1.extBut s3.extBut D.TOi1.symm).extBut s4.extBut D.i12).extBut s5.extBut D.TOi1.symm
  have v2 : g5.IsListIter i2 l2 (k2 + 1) := u2.extBut s5.extBut D.TOi2.symm
  have ltz : z < g5.objs.size := Heap.lt_size z5
  show wpAny _ _ (Builtin.SmallTypes.ownedTupleHandOut (.ref z) (.ref g5.objs.size) >>= _) _ _ { s with heap := g5.push { cls := .type "tuple", data := .seq #[x, y] } }
  refine wpAny_bind ?_
  unfold Builtin.SmallTypes.ownedTupleHandOut
  have z6 : ZipU (g5.push { cls := .type "tuple", data := .seq #[x, y] }) z TI TO .ellipsis q := Heap.get?_push_of_some _ z5
  refine wpAny_bind (wpAny_setField_rec (s := { s with heap := g5.push { cls := .type "tuple", data := .seq #[x, y] } }) z6 (by simp) fun g7 z7 s7 => ?_)
  replace z7 : ZipU g7 z TI TO (rawInt g5.objs.size) q := z7
  refine wpAny_setField_rec (s := { s with heap := g7 }) z7 (by simp) fun g8 z8 s8 => ?_
  replace z8 : IsZip g8 z TI TO (rawInt g5.objs.size) := z8
  have up8 : ∀ c o, c ≠ z → g5.get? c = some o → g8.get? c = some o := fun c o c1 e => s8.extBut _ _ c1 (s7.extBut _ _ c1 (Heap.get?_push_of_some _ e))
  have T8 : IsPair g8 g5.objs.size x y := s8.extBut _ _ (Nat.ne_of_gt ltz) (s7.extBut _ _ (Nat.ne_of_gt ltz) (Heap.get?_push_size _ rfl))
  have sz8 : g8.objs.size = g5.objs.size + 1 := by rw [s8.1, s7.1, Heap.size_push]
  rw [sz5] at z8 T8 sz8
  refine wpAny_pure ⟨_, rfl, ?_⟩
  show Q (.ref g5.objs.size) { s with heap := g8 }
  rw [sz5]
  exact hQ g8 z8 (up8 _ _ D.TOz o5) (v1.at fun o e => up8 _ o D.i1z e) (v2.at fun o e => up8 _ o D.i2z e) T8 sz8 fun c o c1 c2 c3 c4 e => up8 c o c1 (up5 c o c1 c2 c3 c4 e)
theorem zip_end_any {z TI TO i1 i2 l1 l2 : Addr} {k1 k2 : Nat} {xs ys : Array Value} {a b p q : Value} {Q : Fin → Shared → Prop} (hh : A.handled = none) (D : ZipApart z TI TO i1 i2 l1 l2)
    (zz : ZipU s.heap z TI TO p q) (fr : ∀ R : Bool → Shared → Prop, R true s → wpAny (model prog w) A (Builtin.SmallTypes.ownedTupleIsFree (.ref z)) R E s) (pI : IsPair s.heap TI (.ref i1) (.ref i2)) (pO : IsPair s.heap TO a b)
    (t1 : s.heap.IsListIter i1 l1 k1) (t2 : s.heap.IsListIter i2 l2 k2) (m1 : s.heap.IsList l1 xs) (m2 : s.heap.IsList l2 ys) (ge : xs[k1]? = none ∨ ys[k2]? = none)
    (hE : ∀ h' e, (∀ c o, c ≠ z → c ≠ TO → c ≠ i1 → c ≠ i2 → s.heap.get? c = some o → h'.get? c = some o) → (∃ o, h'.get? e = some o ∧ o.cls = .type "StopIteration") → E (.ref e) { s with heap := h' }) :
    wpAny (model prog w) A (Builtin.«zip.__next__» ⟨[.ref z], []⟩) Q E s := by
  show wpAny _ _ (field (.ref z) 2 >>= _) _ _ s
  refine wpAny_bind (wpAny_field zz rfl (x := .bool false) rfl ?_)
  show wpAny _ _ (field (.ref z) 3 >>= _) _ _ s
  refine wpAny_bind (wpAny_field zz rfl (x := .ref TI) rfl (wpAny_bind (wpAny_seqItems pI rfl ?_)))
  show wpAny _ _ (Builtin.SmallTypes.ownedTupleIsFree (.ref z) >>= _) _ _ s
  refine wpAny_bind (fr _ ?_)
  simp only [if_true]
  refine wpAny_bind (wpAny_rule (wpAny_bind (wpAny_field zz rfl (x := .ref TO) rfl (wpAny_bind (wpAny_setField_rec zz (by simp) fun g1 z1 s1 => ?_)))))
  replace z1 : ZipU g1 z TI TO .ellipsis q := z1
  refine wpAny_bind ?_
  simp only [List.zipIdx_cons, List.zipIdx_nil, List.forIn_cons, List.forIn_nil]
  refine wpAny_bind (wpAny_bind (wpAny_onRaise ?_))
  show wpAny _ _ (Builtin.SmallTypes.nextOf (.ref i1) >>= _) _ _ { s with heap := g1 }
  cases gx : xs[k1]? with
  | none =>
    refine wpAny_bind (wpAny_nextOf_list_end (s := { s with heap := g1 }) hh (t1.extBut s1.extBut D.i1z) (m1.extBut s1.extBut D.l1z) gx fun g2 er s2 he => ?_)
    obtain ⟨oe, ho, hc⟩ := he
    have z2 : ZipU g2 z TI TO .ellipsis q := s2 _ _ D.i1z.symm z1
    have ez : er ≠ z := fun x => by subst x; rw [z2] at ho; cases ho; simp at hc
    exact wpAny_setField_rec (s := { s with heap := g2 }) z2 (by simp) fun g3 _ s3 => hE g3 er (fun c o c1 _ c3 _ x => s3.extBut _ _ c1 (s2 _ _ c3 (s1.extBut _ _ c1 x))) ⟨oe, s3.extBut _ _ ez ho, hc⟩
  | some x =>
    have gy : ys[k2]? = none := by rcases ge with h | h; (rw [gx] at h; cases h); exact h
    refine wpAny_bind (wpAny_nextOf_list_item (s := { s with heap := g1 }) (t1.extBut s1.extBut D.i1z) (m1.extBut s1.extBut D.l1z) gx fun g2 u1 s2 => wpAny_pure ?_)
    have o2 : IsPair g2 TO a b := s2.extBut _ _ D.TOi1 (s1.extBut _ _ D.TOz pO)
    refine wpAny_bind (wpAny_seqItems (s := { s with heap := g2 }) o2 rfl (wpAny_bind (wpAny_updateSeq_pair (s := { s with heap := g2 }) o2 fun g3 o3 s3 => ?_)))
    refine wpAny_bind (wpAny_letGo (wpAny_pure (wpAny_bind (wpAny_bind (wpAny_onRaise ?_)))))
    show wpAny _ _ (Builtin.SmallTypes.nextOf (.ref i2) >>= _) _ _ { s with heap := g3 }
    refine wpAny_bind (wpAny_nextOf_list_end (s := { s with heap := g3 }) hh (((t2.extBut s1.extBut D.i2z).extBut s2.extBut D.i12.symm).extBut s3.extBut D.TOi2.symm) (((m2.extBut s1.extBut D.l2z).extBut s2.extBut D.l2i1).extBut s3.extBut D.l2TO) gy fun g4 er s4 he => ?_)
    obtain ⟨oe, ho, hc⟩ := he
    have z4 : ZipU g4 z TI TO .ellipsis q := s4 _ _ D.i2z.symm (s3.extBut _ _ D.TOz.symm (s2.extBut _ _ D.i1z.symm z1))
    have ez : er ≠ z := fun x => by subst x; rw [z4] at ho; cases ho; simp at hc
    exact wpAny_setField_rec (s := { s with heap := g4 }) z4 (by simp) fun g5 _ s5 => hE g5 er (fun c o c1 c2 c3 c4 x => s5.extBut _ _ c1 (s4 _ _ c4 (s3.extBut _ _ c2 (s2.extBut _ _ c3 (s1.extBut _ _ c1 x))))) ⟨oe, s5.extBut _ _ ez ho, hc⟩
/-- one pair is drawn -/
theorem zip_draw {z TI TO i1 i2 l1 l2 : Addr} {i : Nat} {xs ys : Array Value} {x y : Value} {Q : Value → Shared → Prop} (D : ZipApart z TI TO i1 i2 l1 l2) (st : ZipAt s.heap z TI TO i1 i2 l1 l2 i)
    (m1 : s.heap.IsList l1 xs) (m2 : s.heap.IsList l2 ys) (gx : xs[i]? = some x) (gy : ys[i]? = some y)
    (hQ : ∀ h', ZipAt h' z TI TO i1 i2 l1 l2 (i + 1) → IsPair h' s.heap.objs.size x y → h'.objs.size = s.heap.objs.size + 1 →
      (∀ c o, c ≠ z → c ≠ TO → c ≠ i1 → c ≠ i2 → s.heap.get? c = some o → h'.get? c = some o) → Q (.ref s.heap.objs.size) { s with heap := h' }) :
    wpAny (model prog w) A (Builtin.SmallTypes.nextOf (.ref z)) Q E s := by
  obtain ⟨hz, pI, ⟨a, b, pO⟩, t1, t2⟩ := st
  have ty : s.TypeIs (.ref z) "zip" := by
    rcases hz with h | ⟨_, _, h⟩
    · exact ⟨_, h, rfl⟩
    · exact ⟨_, h, rfl⟩
  unfold Builtin.SmallTypes.nextOf
  refine wpAny_bind (wpAny_callSpecial?_slot (name := Str.ofString "__next__") ty F.slot_zip_next (wpAny_call_entry F.slot_zip_next ty F.entry_zip_next ?_ (F.args_zip_next_1 _)))
  have keepI : ∀ {h' : Heap}, (∀ c o, c ≠ z → c ≠ TO → c ≠ i1 → c ≠ i2 → s.heap.get? c = some o → h'.get? c = some o) → IsPair h' TI (.ref i1) (.ref i2) := fun k => k _ _ D.TIz D.TITO D.TIi1 D.TIi2 pI
  rcases hz with h | ⟨T, f, h⟩
  · refine zip_item_any D h (fun R k => ?_) pI pO t1 t2 m1 m2 gx gy fun h' b1 b2 b3 b4 b5 b6 b7 => wpAny_pure (hQ h' ⟨.inr ⟨_, _, b1⟩, keepI b7, ⟨_, _, b2⟩, b3, b4⟩ b5 b6 b7)
    unfold Builtin.SmallTypes.ownedTupleIsFree
    exact wpAny_bind (wpAny_field h rfl (x := .none) rfl (wpAny_pure k))
  · cases al : s.heap.get? T with
    | none => exact zip_item_any D h (fun R k => tuple_gone h al k) pI pO t1 t2 m1 m2 gx gy fun h' b1 b2 b3 b4 b5 b6 b7 => wpAny_pure (hQ h' ⟨.inr ⟨_, _, b1⟩, keepI b7, ⟨_, _, b2⟩, b3, b4⟩ b5 b6 b7)
    | some oT => exact zip_next_item_held D h al pI t1 t2 m1 m2 gx gy fun h' b1 b3 b4 b5 b6 b7 => wpAny_pure (hQ h' ⟨.inr ⟨_, _, b1⟩, keepI fun c o c1 _ c3 c4 e => b7 c o c1 c3 c4 e, ⟨_, _, b7 _ _ D.TOz D.TOi1 D.TOi2 pO⟩, b3, b4⟩ b5 b6 fun c o c1 _ c3 c4 e => b7 c o c1 c3 c4 e)
theorem zip_over {z TI TO i1 i2 l1 l2 : Addr} {i : Nat} {xs ys : Array Value} {Q : Value → Shared → Prop} (hh : A.handled = none) (D : ZipApart z TI TO i1 i2 l1 l2) (st : ZipAt s.heap z TI TO i1 i2 l1 l2 i)
    (m1 : s.heap.IsList l1 xs) (m2 : s.heap.IsList l2 ys) (ge : xs[i]? = none ∨ ys[i]? = none)
    (hE : ∀ h' e, (∀ c o, c ≠ z → c ≠ TO → c ≠ i1 → c ≠ i2 → s.heap.get? c = some o → h'.get? c = some o) → (∃ o, h'.get? e = some o ∧ o.cls = .type "StopIteration") → E (.ref e) { s with heap := h' }) :
    wpAny (model prog w) A (Builtin.SmallTypes.nextOf (.ref z)) Q E s := by
  obtain ⟨hz, pI, ⟨a, b, pO⟩, t1, t2⟩ := st
  have ty : s.TypeIs (.ref z) "zip" := by
    rcases hz with h | ⟨_, _, h⟩
    · exact ⟨_, h, rfl⟩
    · exact ⟨_, h, rfl⟩
  unfold Builtin.SmallTypes.nextOf
  refine wpAny_bind (wpAny_callSpecial?_slot (name := Str.ofString "__next__") ty F.slot_zip_next (wpAny_call_entry F.slot_zip_next ty F.entry_zip_next ?_ (F.args_zip_next_1 _)))
  rcases hz with h | ⟨T, f, h⟩
  · refine zip_end_any hh D h (fun R k => ?_) pI pO t1 t2 m1 m2 ge hE
    unfold Builtin.SmallTypes.ownedTupleIsFree
    exact wpAny_bind (wpAny_field h rfl (x := .none) rfl (wpAny_pure k))
  · cases al : s.heap.get? T with
    | none => exact zip_end_any hh D h (fun R k => tuple_gone h al k) pI pO t1 t2 m1 m2 ge hE
    | some oT => exact zip_next_end_held hh D h al pI t1 t2 m1 m2 ge fun h' e b1 b2 => hE h' e (fun c o c1 _ c3 c4 e => b1 c o c1 c3 c4 e) b2
/-- a turn of enumerate over anything that is drawn -/
theorem enum_turn {e it : Addr} {i : Nat} {old x : Value} {G : Heap → Prop} {Q : Option Value → Shared → Prop} (he : IsEnum s.heap e it (i : Nat) old)
    (draw : ∀ (B : Around) (E' : Value → Shared → Prop) (R : Value → Shared → Prop), (∀ h1, G h1 → IsEnum h1 e it (i : Nat) old → R x { s with heap := h1 }) → wpAny (model prog w) B (Builtin.SmallTypes.nextOf (.ref it)) R E' s)
    (hQ : ∀ h1 h', G h1 → IsEnumOut h' e it ((i : Int) + 1) x h1.objs.size → h'.get? h1.objs.size = some { cls := .type "tuple", data := .seq #[.int i s.toks, x] } → h'.objs.size = h1.objs.size + 1 →
      (∀ b o, b ≠ e → h1.get? b = some o → h'.get? b = some o) → Q (some (.ref h1.objs.size)) { s with heap := h', toks := s.toks + 1 }) :
    wpAny (model prog w) A (pyNext (.ref e)) Q E s := by
  have ty : s.TypeIs (.ref e) "enumerate" := ⟨_, he, rfl⟩
  unfold pyNext
  refine wpAny_bind (wpAny_attempt (wpAny_callSpecial?_slot (name := Str.ofString "__next__") ty F.slot_enumerate_next (wpAny_call_entry F.slot_enumerate_next ty F.entry_enumerate_next ?_ (F.args_enumerate_next_1 _))))
  show wpAny _ _ (field (.ref e) 2 >>= _) _ _ s
  refine wpAny_bind (wpAny_field he rfl (x := .ref it) rfl (wpAny_bind (draw _ _ _ fun h1 hG e1 => ?_)))
  show wpAny _ _ (field (.ref e) 3 >>= _) _ _ { s with heap := h1 }
  refine wpAny_bind (wpAny_field (s := { s with heap := h1 }) e1 rfl (x := rawInt i) rfl ?_)
  show wpAny _ _ (field (.ref e) 4 >>= _) _ _ { s with heap := h1 }
  refine wpAny_bind (wpAny_field (s := { s with heap := h1 }) e1 rfl (x := .none) rfl ?_)
  show wpAny _ _ (mkInt i >>= _) _ _ { s with heap := h1 }
  refine wpAny_bind (wpAny_mkInt ?_)
  show wpAny _ _ (setField (.ref e) 3 (rawInt ((i : Int) + 1)) >>= _) _ _ { s with heap := h1, toks := s.toks + 1 }
  refine wpAny_bind (wpAny_setField_rec (s := { s with heap := h1, toks := s.toks + 1 }) e1 (by simp) fun h2 e2 s2 => ?_)
  replace e2 : IsEnum h2 e it ((i : Int) + 1) old := e2
  show wpAny _ _ (setField (.ref e) 4 .none >>= _) _ _ { s with heap := h2, toks := s.toks + 1 }
  refine wpAny_bind (wpAny_setField_rec (s := { s with heap := h2, toks := s.toks + 1 }) e2 (by simp) fun h3 e3 s3 => ?_)
  replace e3 : IsEnum h3 e it ((i : Int) + 1) old := e3
  show wpAny _ _ (newTuple [.int i s.toks, x] >>= _) _ _ { s with heap := h3, toks := s.toks + 1 }
  refine wpAny_bind (wpAny_newTuple ?_)
  have e4 : IsEnum (h3.push { cls := .type "tuple", data := .seq #[.int i s.toks, x] }) e it ((i : Int) + 1) old := Heap.get?_push_of_some _ e3
  have t4 : (h3.push { cls := .type "tuple", data := .seq #[.int i s.toks, x] }).get? h3.objs.size = some { cls := .type "tuple", data := .seq #[.int i s.toks, x] } := Heap.get?_push_size _ rfl
  have n4 : (h3.push { cls := .type "tuple", data := .seq #[.int i s.toks, x] }).objs.size = h3.objs.size + 1 := Heap.size_push ..
  have k4 : ∀ b o, b ≠ e → h1.get? b = some o → (h3.push { cls := .type "tuple", data := .seq #[.int i s.toks, x] }).get? b = some o := fun b o hb q => Heap.get?_push_of_some _ (s3.extBut b o hb (s2.extBut b o hb q))
  have z3 : h3.objs.size = h1.objs.size := by rw [s3.1, s2.1]
  rw [z3] at t4 n4
  have le : e < h1.objs.size := Heap.lt_size e1
  show wpAny _ _ (Builtin.SmallTypes.ownedTupleIsFree (.ref e) >>= _) _ _ { s with heap := h3.push { cls := .type "tuple", data := .seq #[.int i s.toks, x] }, toks := s.toks + 1 }
  rw [z3]
  generalize h3.push { cls := .type "tuple", data := .seq #[.int i s.toks, x] } = h4 at e4 t4 n4 k4 ⊢
  refine wpAny_bind ?_
  unfold Builtin.SmallTypes.ownedTupleIsFree
  refine wpAny_bind (wpAny_field (s := { s with heap := h4, toks := s.toks + 1 }) e4 rfl (x := .none) rfl (wpAny_pure ?_))
  simp only [if_true]
  refine wpAny_bind (wpAny_rule (wpAny_bind (wpAny_field (s := { s with heap := h4, toks := s.toks + 1 }) e4 rfl (x := old) rfl ?_)))
  refine wpAny_bind (wpAny_setField_rec (s := { s with heap := h4, toks := s.toks + 1 }) e4 (by simp) fun h5 e5 s5 => ?_)
  replace e5 : IsEnum h5 e it ((i : Int) + 1) x := e5
  show wpAny _ _ (Builtin.SmallTypes.ownedTupleHandOut (.ref e) (.ref h1.objs.size) >>= _) _ _ { s with heap := h5, toks := s.toks + 1 }
  refine wpAny_bind ?_
  unfold Builtin.SmallTypes.ownedTupleHandOut
  refine wpAny_bind (wpAny_setField_rec (s := { s with heap := h5, toks := s.toks + 1 }) e5 (by simp) fun h6 e6 s6 => ?_)
  replace e6 : IsEnumOut h6 e it ((i : Int) + 1) x h1.objs.size := e6
  refine wpAny_setField_rec (s := { s with heap := h6, toks := s.toks + 1 }) e6 (by simp) fun h7 e7 s7 => ?_
  replace e7 : IsEnumOut h7 e it ((i : Int) + 1) x h1.objs.size := e7
  refine wpAny_bind (wpAny_letGo (wpAny_pure ⟨_, rfl, wpAny_pure (hQ h1 h7 hG e7 ?_ ?_ ?_)⟩))
  · exact s7.extBut _ _ (Nat.ne_of_gt le) (s6.extBut _ _ (Nat.ne_of_gt le) (s5.extBut _ _ (Nat.ne_of_gt le) t4))
  · rw [s7.1, s6.1, s5.1, n4]
  · exact fun b o hb q => s7.extBut b o hb (s6.extBut b o hb (s5.extBut b o hb (k4 b o hb q)))
theorem enum_over {e it : Addr} {i : Nat} {old : Value} {G : Heap → Prop} {Q : Option Value → Shared → Prop} (he : IsEnum s.heap e it (i : Nat) old)
    (draw : ∀ (B : Around) (E' : Value → Shared → Prop) (R : Value → Shared → Prop), B.handled = A.handled → (∀ h1 er, G h1 → (∃ o, h1.get? er = some o ∧ o.cls = .type "StopIteration") → E' (.ref er) { s with heap := h1 }) → wpAny (model prog w) B (Builtin.SmallTypes.nextOf (.ref it)) R E' s)
    (hQ : ∀ h1, G h1 → Q none { s with heap := h1 }) : wpAny (model prog w) A (pyNext (.ref e)) Q E s := by
  have ty : s.TypeIs (.ref e) "enumerate" := ⟨_, he, rfl⟩
  unfold pyNext
  refine wpAny_bind (wpAny_attempt (wpAny_callSpecial?_slot (name := Str.ofString "__next__") ty F.slot_enumerate_next (wpAny_call_entry F.slot_enumerate_next ty F.entry_enumerate_next ?_ (F.args_enumerate_next_1 _))))
  show wpAny _ _ (field (.ref e) 2 >>= _) _ _ s
  refine wpAny_bind (wpAny_field he rfl (x := .ref it) rfl (wpAny_bind (draw _ _ _ rfl fun h1 er hG hx => ?_)))
  obtain ⟨o, ho, hc⟩ := hx
  exact wpAny_bind (wpAny_isInstance (T := "StopIteration") (b := true) ⟨o, ho, hc⟩ isSubtype_stop (wpAny_pure (hQ h1 hG)))
end
/-- the lists at a and b as they stand at each turn, the items in new pairs, these behind their number -/
def Itez (K : PySem.W.Frag) (a b : Addr) : It where
  go := fun i H => ∃ (xs ys : List V) (x y : V), SqL K H a xs ∧ SqL K H b ys ∧ xs[i]? = some x ∧ ys[i]? = some y
  yld := fun i H v H' => ∃ (S T : Addr) (x y : V), v = .ref T ∧ H S = none ∧ upd H S (.tup [x, y]) T = none ∧ H' = upd (upd H S (.tup [x, y])) T (.tup [.int (i : Nat), .ref S]) ∧ (∀ xs, SqL K H a xs → xs[i]? = some x) ∧ ∀ ys, SqL K H b ys → ys[i]? = some y
  stop := fun i H => ∃ xs ys : List V, SqL K H a xs ∧ SqL K H b ys ∧ (xs.length ≤ i ∨ ys.length ≤ i)
theorem turn_ez {P : Program} {w : World} {K : PySem.W.Frag} {elts : List Expr} {kk : Nat} {tpos : Pos} {a b e z TI TO i1 i2 : Addr} (D : ZipApart z TI TO i1 i2 a b) (ne : e ∉ [z, TI, TO, i1, i2]) :
    Turn P w K (.Tuple elts kk tpos) (Itez K a b) [e, z, TI, TO, i1, i2] e fun i h => (∃ old, IsEnum h e z (i : Nat) old) ∧ ZipAt h z TI TO i1 i2 a b i where
  mem := List.mem_cons_self ..
  obj := fun i h st c hc => by
    obtain ⟨⟨old, he⟩, hz, pI, ⟨x, y, pO⟩, ⟨o1, e1, _, d1⟩, ⟨o2, e2, _, d2⟩⟩ := st
    simp only [List.mem_cons, List.not_mem_nil, or_false] at hc
    rcases hc with q | q | q | q | q | q
    · rw [q]; exact ⟨_, he, fun v q => nomatch q⟩
    · rw [q]
      rcases hz with h | ⟨_, _, h⟩
      · exact ⟨_, h, fun v q => nomatch q⟩
      · exact ⟨_, h, fun v q => nomatch q⟩
    · rw [q]; exact ⟨_, pI, fun v q => nomatch q⟩
    · rw [q]; exact ⟨_, pO, fun v q => nomatch q⟩
    · rw [q]; exact ⟨o1, e1, fun v q => by rw [d1] at q; cases q⟩
    · rw [q]; exact ⟨o2, e2, fun v q => by rw [d2] at q; cases q⟩
  keep := fun i h h' st k => by
    obtain ⟨⟨old, he⟩, hz, pI, ⟨x, y, pO⟩, h1, h2⟩ := st
    refine ⟨⟨old, k e (by simp) _ he⟩, ?_, k TI (by simp) _ pI, ⟨x, y, k TO (by simp) _ pO⟩, h1.at fun o q => k i1 (by simp) o q, h2.at fun o q => k i2 (by simp) o q⟩
    rcases hz with h | ⟨T, f, h⟩
    · exact .inl (k z (by simp) _ h)
    · exact .inr ⟨T, f, k z (by simp) _ h⟩
  item := by
    intro X hP hw hK hc i pins s σ H E I hf st hg
    subst hP hw hK
    obtain ⟨⟨old, he⟩, zt⟩ := st
    obtain ⟨xs, ys, x, y, hqx, hqy, hx, hy⟩ := hg
    obtain ⟨its, rv, p, _⟩ := I.list hqx
    obtain ⟨its2, rv2, p2, _⟩ := I.list hqy
    obtain ⟨u, hu, ru⟩ := rv.get hx
    obtain ⟨u2, hu2, ru2⟩ := rv2.get hy
    have nez : e ≠ z := fun q => ne (by simp [q])
    have neO : e ≠ TO := fun q => ne (by simp [q])
    have ne1 : e ≠ i1 := fun q => ne (by simp [q])
    have ne2 : e ≠ i2 := fun q => ne (by simp [q])
    have lt : ∀ {c o}, s.heap.get? c = some o → c < s.heap.objs.size := fun q => Heap.lt_size q
    have fpl : ∀ c ∈ [e, z, TI, TO, i1, i2], c < s.heap.objs.size := fun c hcm => by
      obtain ⟨hz, pI, ⟨x, y, pO⟩, ⟨_, e1, _⟩, ⟨_, e2, _⟩⟩ := zt
      simp only [List.mem_cons, List.not_mem_nil, or_false] at hcm
      rcases hcm with q | q | q | q | q | q
      · rw [q]; exact lt he
      · rw [q]
        rcases hz with h | ⟨_, _, h⟩
        · exact lt h
        · exact lt h
      · rw [q]; exact lt pI
      · rw [q]; exact lt pO
      · rw [q]; exact lt e1
      · rw [q]; exact lt e2
    refine enum_turn (x := .ref s.heap.objs.size) (G := fun h1 => ZipAt h1 z TI TO i1 i2 a b (i + 1) ∧ IsPair h1 s.heap.objs.size u u2 ∧ h1.objs.size = s.heap.objs.size + 1 ∧ ∀ c o, c ≠ z → c ≠ TO → c ≠ i1 → c ≠ i2 → s.heap.get? c = some o → h1.get? c = some o) he
      (fun B E' R k => zip_draw D zt p.isList p2.isList (x := u) (y := u2) (by simpa using hu) (by simpa using hu2) fun h1 g1 g2 g3 g4 => k h1 ⟨g1, g2, g3, g4⟩ (g4 e _ nez neO ne1 ne2 he)) fun h1 h' hG ho hT hsz hk => ⟨_, rfl, ?_⟩
    obtain ⟨g1, g2, g3, g4⟩ := hG
    refine wpAny_letOwnedTupleGo_enum (s := { s with heap := h', toks := s.toks + 1 }) ho fun h'' he'' sb => ?_
    have kk2 : ∀ c o, c ≠ e → h1.get? c = some o → h''.get? c = some o := fun c o hne q => (sb.2 c hne).trans (hk c o hne q)
    have I1 : Inv X pins σ (upd H s.heap.objs.size (.tup [x, y])) { s with heap := h1 } :=
      I.turnedNew (t' := s.toks) (ch := [z, TO, i1, i2]) (fun c o hb q => g4 c o (fun q' => hb (by simp [q'])) (fun q' => hb (by simp [q'])) (fun q' => hb (by simp [q'])) (fun q' => hb (by simp [q'])) q) (fun c hcm => hf c (by
        simp only [List.mem_cons, List.not_mem_nil, or_false] at hcm ⊢
        rcases hcm with q | q | q | q <;> simp [q])) (Nat.le_refl _)
        ⟨by show 2 ≤ sizeLine; decide, [u, u2], .cons ru (.cons ru2 .nil), ⟨_, g2, rfl, _, rfl⟩⟩
    have nS : H s.heap.objs.size = none := I.hok.fresh (Nat.le_refl _)
    have hel : e < s.heap.objs.size := lt he
    have fe := hf e (List.mem_cons_self ..)
    have T2 : h''.get? h1.objs.size = some { cls := .type "tuple", data := .seq #[.int i s.toks, .ref s.heap.objs.size] } := (sb.2 _ (Nat.ne_of_gt (Nat.lt_of_lt_of_le hel (by rw [g3]; exact Nat.le_succ _)))).trans hT
    have I2 : Inv X pins σ (upd (upd H s.heap.objs.size (.tup [x, y])) h1.objs.size (.tup [.int (i : Nat), .ref s.heap.objs.size])) { s with heap := h'', toks := s.toks + 1 } :=
      I1.turnedNew (t' := s.toks + 1) (ch := [e]) (fun c o hb q => kk2 c o (by simpa using hb) q) (fun c hcm => by
        have hce : c = e := by simpa using hcm
        subst hce
        exact ⟨by rw [upd_ne (Nat.ne_of_lt hel)]; exact fe.1, fe.2⟩) (Nat.le_refl _)
        ⟨by show 2 ≤ sizeLine; decide, [.int i s.toks, .ref s.heap.objs.size], .cons ⟨s.toks, rfl⟩ (.cons rfl .nil), ⟨_, T2, rfl, _, rfl⟩⟩
    refine ⟨.ref h1.objs.size, _, I2, rfl, ⟨s.heap.objs.size, h1.objs.size, x, y, rfl, nS, I1.hok.fresh (Nat.le_refl _), rfl, fun l hl => by rw [I.list_inj hl hqx]; exact hx, fun l hl => by rw [I.list_inj hl hqy]; exact hy⟩, ⟨⟨_, he''⟩, ?_⟩, fun c hcm => ?_⟩
    · obtain ⟨hz, pI, ⟨x', y', pO⟩, h1', h2'⟩ := g1
      have nTI : TI ≠ e := fun q => ne (by simp [q])
      refine ⟨?_, kk2 _ _ nTI pI, ⟨x', y', kk2 _ _ neO.symm pO⟩, h1'.at fun o q => kk2 i1 o ne1.symm q, h2'.at fun o q => kk2 i2 o ne2.symm q⟩
      rcases hz with h | ⟨T, f, h⟩
      · exact .inl (kk2 z _ nez.symm h)
      · exact .inr ⟨T, f, kk2 z _ nez.symm h⟩
    · have hlt := fpl c hcm
      rw [upd_ne (Nat.ne_of_lt (Nat.lt_of_lt_of_le hlt (by rw [g3]; exact Nat.le_succ _))), upd_ne (Nat.ne_of_lt hlt)]
      exact (hf c hcm).1
  done := by
    intro X hP hw hK hc i pins s σ H E I hf st hg
    subst hP hw hK
    obtain ⟨⟨old, he⟩, zt⟩ := st
    obtain ⟨xs, ys, hqx, hqy, hend⟩ := hg
    obtain ⟨its, rv, p, _⟩ := I.list hqx
    obtain ⟨its2, rv2, p2, _⟩ := I.list hqy
    have l1 := rv.length
    have l2 := rv2.length
    have ge : its.toArray[i]? = none ∨ its2.toArray[i]? = none := by
      rcases hend with q | q
      · exact .inl (by simp; omega)
      · exact .inr (by simp; omega)
    refine enum_over (G := fun h1 => ∀ c o, c ≠ z → c ≠ TO → c ≠ i1 → c ≠ i2 → s.heap.get? c = some o → h1.get? c = some o) he (fun B E' R hB k => zip_over (hB.trans (I.ok.hd hc)) D zt p.isList p2.isList ge fun h' er g1 g2 => k h' er g1 g2) fun h1 g4 => ⟨rfl, ?_⟩
    exact I.turnedL (t' := s.toks) (ch := [z, TO, i1, i2]) (fun c o hb q => g4 c o (fun q' => hb (by simp [q'])) (fun q' => hb (by simp [q'])) (fun q' => hb (by simp [q'])) (fun q' => hb (by simp [q'])) q) (fun c hcm => hf c (by
        simp only [List.mem_cons, List.not_mem_nil, or_false] at hcm ⊢
        rcases hcm with q | q | q | q <;> simp [q]))
  self := fun A i s Q E st h => let ⟨⟨_, he⟩, _⟩ := st; wpAny_pyIter_enum he h
/-- enumerate(zip(..)) begins -/
theorem zip_iter_any {prog : Program} {w : World} {A : Around} {E : Value → Shared → Prop} {s : Shared} {z TI TO : Addr} {Q : Value → Shared → Prop} (hz : IsZip s.heap z TI TO .none) (h : Q (.ref z) s) : wpAny (model prog w) A (pyIter (.ref z)) Q E s := wpAny_pyIter_zip hz h
theorem meets_enumZ (z TI TO : Addr) : Meets (Builtin.«enumerate.__new__» { pos := [Value.type "enumerate", .ref z] }) fun _ R s =>
    IsZip s.heap z TI TO .none ∧ R (Except.ok (Flow.ret (Value.ref s.heap.objs.size))) { heap := s.heap.push { cls := Value.type "enumerate", data := Data.fields #[Value.none, Value.bool false, Value.ref z, rawInt 0, Value.none, Value.none] }, gens := s.gens, drawn := s.drawn, toks := s.toks, os := s.os } := by
  intro prog w A R s ⟨h1, h2⟩
  unfold Builtin.«enumerate.__new__»
  rw [newClass_enum]
  refine wpAny_bind (wpAny_pure ?_)
  simp only [beq_self_eq_true, if_true]
  have key : ∀ s' : Shared, s' = s → wpAny (model prog w) A.in1 (do
      let __do_lift ← pyIter (.ref z)
      let __do_lift ← Builtin.SmallTypes.newRecord (Value.type "enumerate") (Builtin.SmallTypes.ownedTupleFields ++ [__do_lift, rawInt 0, Value.none, Value.none])
      ret __do_lift) (fun fin s' => match fin with
          | Fin.done f => R (Except.ok f) s'
          | Fin.again c' => c'.quiet = true ∧ codeAny (model prog w) A c' R s') (fun e s' => R (Except.error e) s') s' := by
    rintro s' rfl
    refine wpAny_bind (zip_iter_any h1 (wpAny_bind ?_))
    refine wpAny_newObj_type (T := "enumerate") (data := Data.fields #[Value.none, Value.bool false, Value.ref z, rawInt 0, Value.none, Value.none]) (dict := none) ?_
    exact wpAny_pure h2
  refine wpAny_bind ?_
  unfold Builtin.SmallTypes.calledThroughType
  refine wpAny_bind (wpAny_stack fun st _ _ _ => ?_)
  refine wpAny_pure ?_
  exact iteInduction (motive := fun m => wpAny (model prog w) A.in1 m _ _ s) (fun _ => key s rfl) (fun _ => key s rfl)
theorem call_enumZ {prog : Program} {w : World} {A : Around} {E : Value → Shared → Prop} {s : Shared} {z TI TO : Addr} {Q : Value → Shared → Prop} (h : IsZip s.heap z TI TO .none)
    (k : ∀ h' : Heap, IsEnum h' s.heap.objs.size z 0 Value.none → (∀ (b : Addr) (o : Obj), s.heap.get? b = some o → h'.get? b = some o) → Q (.ref s.heap.objs.size) { s with heap := h' }) : wpAny (model prog w) A (call (Value.type "enumerate") [.ref z]) Q E s := by
  refine callType_new F.called_enumerate (by decide) (F.typeCall_enumerate_1 (.ref z)) (F.newCall_enumerate_1 (.ref z)) (fun obj => ao1 obj (.ref z)) F.entry_enumerate_new (meets_enumZ z TI TO) ⟨h, ?_⟩
  have g2 : (s.heap.push { cls := Value.type "enumerate", data := Data.fields #[Value.none, Value.bool false, Value.ref z, rawInt 0, Value.none, Value.none] }).get? s.heap.objs.size = some { cls := Value.type "enumerate", data := Data.fields #[Value.none, Value.bool false, Value.ref z, rawInt 0, Value.none, Value.none] } := Heap.get?_push_size _ rfl
  exact ⟨⟨_, g2, rfl⟩, k _ g2 fun b u q => Heap.get?_push_of_some _ q⟩
def iEnumZip (K : PySem.W.Frag) (ta : TA) : TI := fun σ H R => ta σ H fun vs H1 => ∃ a b xs ys, vs = [.ref a, .ref b] ∧ SqL K H1 a xs ∧ SqL K H1 b ys ∧ R (Itez K a b) H1
theorem pi_enumZip {X : Cx} {e e2 : Expr} {ta : TA} {p pos p2 pos2 tpos : Pos} {elts : List Expr} {kk : Nat} (hg : Gl X "enumerate") (hm : X.mg "enumerate" = none) (hgz : Gl X "zip") (hmz : X.mg "zip" = none) (ha : PA X [e, e2] ta)
    (ho : starEach [.Call (.Name "zip" p2) [e, e2] [] pos2] X.env = [(false, eval (.Call (.Name "zip" p2) [e, e2] [] pos2) X.env)] := by rfl)
    (hs : starEach [e, e2] X.env = (false, eval e X.env) :: starEach [e2] X.env := by rfl) (hpl : (backTo pos2 (starEach [e2] X.env)).any (·.1) = false := by rfl) :
    PI X (.Tuple elts kk tpos) (.Call (.Name "enumerate" p) [.Call (.Name "zip" p2) [e, e2] [] pos2] [] pos) (iEnumZip X.K ta) := by
  refine ⟨fun pins s σ H R I h => ?_⟩
  refine wpAny_Call_Name_kw (ld_blt I hg hm boot_enumerate ?_)
  rw [ho]
  refine callWith_type1 (Call_ (ld_blt I hgz hmz PyProof.Rows.boot_zip (PyProof.Rows.callWith_type1 (thn (ha.run pos2 pins s σ H _ I h) fun us s1 ⟨vs, H1, I1, r1, q1⟩ => ?_) hs hpl)))
  obtain ⟨a, b, xs, ys, ex, hqx, hqy, q⟩ := q1
  subst ex
  cases r1 with
  | cons r rr =>
    cases rr with
    | cons r' rr =>
      cases rr
      cases r
      cases r'
      obtain ⟨its, rv, p1, _⟩ := I1.list hqx
      obtain ⟨its2, rv2, p2, _⟩ := I1.list hqy
      have la : a < s1.heap.objs.size := p1.lt
      have lb : b < s1.heap.objs.size := p2.lt
      refine call_zip_2 p1.isList p2.isList fun h1 hz hTI hTO t1 t2 hsz hk => ?_
      refine call_enumZ (s := { s1 with heap := h1 }) hz fun h' hE hk2 => wpAny_pyIter_enum hE ?_
      have I2 : Inv X pins σ H1 { s1 with heap := h' } := I1.kept (t' := s1.toks) fun c o q => hk2 c o (hk c o q)
      have es : ({ s1 with heap := h1 } : Shared).heap.objs.size = s1.heap.objs.size + 5 := hsz
      rw [es] at hE ⊢
      refine ⟨s1.heap.objs.size + 5, [s1.heap.objs.size + 5, s1.heap.objs.size + 4, s1.heap.objs.size + 2, s1.heap.objs.size + 3, s1.heap.objs.size, s1.heap.objs.size + 1], _, _, H1, rfl, I2, turn_ez (PySem.W.ktu_apart s1.heap.objs.size a b la lb) ?_, ⟨⟨_, hE⟩, .inl (hk2 _ _ hz), hk2 _ _ hTI, ⟨_, _, hk2 _ _ hTO⟩, t1.at fun o q => hk2 _ o q, t2.at fun o q => hk2 _ o q⟩, fun c hcm => ?_, q⟩
      · have five : ∀ n : Nat, n + 5 ∉ [n + 4, n + 2, n + 3, n, n + 1] := fun n => by simp
        exact five _
      · have all : ∀ n c : Nat, c ∈ [n + 5, n + 4, n + 2, n + 3, n, n + 1] → n ≤ c := fun n c h => by
          simp only [List.mem_cons, List.not_mem_nil, or_false] at h
          omega
        have hle := all _ _ hcm
        exact I1.fpOk hle (I1.hok.fresh hle)
theorem walk_ez {K : PySem.W.Frag} {a b : Addr} {xs ys : List V} (hl : xs.length = ys.length) : Walk (Itez K a b) xs.length (fun H => SqL K H a xs ∧ SqL K H b ys) (fun i H v H' => ∃ (S T : Addr) (x y : V), v = .ref T ∧ H S = none ∧ upd H S (.tup [x, y]) T = none ∧ H' = upd (upd H S (.tup [x, y])) T (.tup [.int (i : Nat), .ref S]) ∧ xs[i]? = some x ∧ ys[i]? = some y) := by
  refine ⟨fun i H hi h => ?_, fun H h => ⟨xs, ys, h.1, h.2, .inl (Nat.le_refl _)⟩, fun i H x H' hi h hy => ?_⟩
  · have h2 : i < ys.length := by omega
    exact ⟨xs, ys, xs[i], ys[i], h.1, h.2, List.getElem?_eq_getElem hi, List.getElem?_eq_getElem h2⟩
  · obtain ⟨S, T, v, u, rfl, hn, hn2, rfl, hx, hy⟩ := hy
    exact ⟨S, T, v, u, rfl, hn, hn2, rfl, hx xs h.1, hy ys h.2⟩
end EnT

namespace EnT
open PySem PySem.Spec PyProof.Rows L2
/-! ### xs[a:c] = ys -/
def gSl (to ta tc : TE) : TG := fun v σ H Q => to σ H fun o H1 => tPart ta σ H1 fun w H2 => ∃ i, w = some i ∧ tPart tc σ H2 fun w2 H3 => ∃ j, w2 = some j ∧ ∃ (l b : Addr) (xs ys : List V),
  o = .ref l ∧ v = .ref b ∧ H3 l = some (.lst xs) ∧ H3 b = some (.lst ys) ∧ l ≠ b ∧ 0 ≤ i ∧ i ≤ j ∧ j ≤ xs.length ∧ xs.length + ys.length ≤ sizeLine ∧ Q σ (upd H3 l (.lst (xs.take i.toNat ++ ys ++ xs.drop j.toNat)))
theorem pg_slice {X : Cx} {o a c : Expr} {to ta tc : TE} {p2 pos : Pos} (ho : PE X o to) (h1 : PE X a ta) (h2 : PE X c tc)
    (ha : ∀ v, assign (.Subscript o (.Slice (some a) (some c) none p2) pos) X.env v = (do
      let ov ← holding [v] (eval o X.env)
      let iv ← holding [v, ov] (eval (.Slice (some a) (some c) none p2) X.env)
      standAt pos
      holding [v, ov, iv] (setItem ov iv v)
      release [iv, v, ov] []) := by intro _; rfl) : PG X (.Subscript o (.Slice (some a) (some c) none p2) pos) (gSl to ta tc) := by
  refine ⟨fun pins s σ H v u Q I r h => ?_⟩
  rw [ha]
  refine wpAny_bind (wpAny_holding (thn (ho.run pins s σ H _ I h) fun ov s1 ⟨x, H1, I1, r1, q1⟩ => ?_))
  refine wpAny_bind (wpAny_holding (wpAny_Slice (thn ((po_some h1).run pins s1 σ H1 _ I1 q1) fun vl s2 ⟨w, H2, I2, pl, i, ew, q2⟩ => ?_)))
  subst ew
  refine thn ((po_some h2).run pins s2 σ H2 _ I2 q2) fun vu s3 ⟨w, H3, I3, pu, j, ew, l, b, xs, ys, ex, ev, hl, hb, hne, h0, hij, hj, hz, q⟩ => ?_
  subst ew ex ev
  cases r1
  cases r
  rw [evalPart_none]
  refine wpAny_pure ?_
  have I4 : Inv X pins σ H3 { s3 with heap := s3.heap.push { cls := .type "slice", data := .fields #[vl, vu, .none] } } := I3.kept (t' := s3.toks) fun b ob q => Heap.get?_push_of_some _ q
  refine wpAny_bind (wpAny_standAt (wpAny_bind (wpAny_holding ?_)))
  have rl : RelV (.int i) vl := by cases pl with | int _ t => exact ⟨t, rfl⟩
  have ru : RelV (.int j) vu := by cases pu with | int _ t => exact ⟨t, rfl⟩
  exact set_slice I4 hl hb hne (Heap.IsSliceOf.new ..) rl ru h0 hij hj hz fun s' I5 => wpAny_release ⟨σ, _, I5, q⟩
end EnT

namespace TGK
open TG
open PySem PySem.Spec PyProof.Rows L2 Gx EnT
/-! ### texts and rows that are cut and joined -/
theorem same_rf (H : Hp) : Same H H := fun _ _ e => e
theorem same_tr {H H1 H2 : Hp} (x : Same H H1) (y : Same H1 H2) : Same H H2 := fun b u e => y b u (x b u e)
def zT (z : Str) (k : Nat) : Str := cutS z none (some (k : Int))
def zD (z : Str) (k : Nat) : Str := cutS z (some (k : Int)) none
theorem cl_zT (z : Str) (k : Nat) : cl (zT z k) = (cl z).take k := by
  obtain ⟨⟨l⟩⟩ := z
  unfold zT cutS
  simp only [cl, Str.length]
  rw [HT.sIx_none, HT.sIx_nat]
  simp
theorem cl_zD (z : Str) (k : Nat) : cl (zD z k) = (cl z).drop k := by
  obtain ⟨⟨l⟩⟩ := z
  unfold zD cutS
  simp only [cl, Str.length]
  rw [HT.sIx_none, HT.sIx_nat]
  simp only [List.size_toArray]
  rw [List.take_of_length_le (by rw [List.length_drop]; omega)]
  by_cases h : k ≤ l.length
  · rw [Nat.min_eq_left h]
  · rw [Nat.min_eq_right (by omega), List.drop_eq_nil_of_le (Nat.le_refl _), List.drop_eq_nil_of_le (by omega)]
theorem len_clz (z : Str) : z.length = (cl z).length := by
  show z.cps.size = z.cps.toList.length
  simp
theorem len_zT {z : Str} {k : Nat} : (zT z k).length = min k z.length := by rw [len_clz, cl_zT, List.length_take, ← len_clz]
theorem len_zD {z : Str} {k : Nat} : (zD z k).length = z.length - k := by rw [len_clz, cl_zD, List.length_drop, ← len_clz]
theorem len_zz (a b : Str) : (a ++ b).length = a.length + b.length := by rw [len_clz, cl_app, List.length_append, ← len_clz, ← len_clz]
/-- signs all good, at most so many -/
structure Sgs (z : Str) (m : Nat) : Prop where
  len : z.length ≤ m
  sg : ∀ c ∈ cl z, SgOk c
theorem Sgs.cell {z : Str} (h : Sgs z 10) : CellOk z := ⟨h.len, h.sg⟩
theorem _root_.TG.CellOk.sgs {z : Str} (h : CellOk z) : Sgs z 10 := ⟨h.len, h.sg⟩
theorem Sgs.tk {z : Str} {m k : Nat} (h : Sgs z m) : Sgs (zT z k) m := ⟨by rw [len_zT]; have := h.len; omega, fun c hc => h.sg c (by rw [cl_zT] at hc; exact List.mem_of_mem_take hc)⟩
theorem Sgs.dr {z : Str} {m k : Nat} (h : Sgs z m) : Sgs (zD z k) m := ⟨by rw [len_zD]; have := h.len; omega, fun c hc => h.sg c (by rw [cl_zD] at hc; exact List.mem_of_mem_drop hc)⟩
theorem Sgs.app {a b : Str} {m n : Nat} (h : Sgs a m) (h2 : Sgs b n) : Sgs (a ++ b) (m + n) := ⟨by rw [len_zz]; have := h.len; have := h2.len; omega, fun c hc => by
  rw [cl_app] at hc
  rcases List.mem_append.mp hc with q | q
  · exact h.sg c q
  · exact h2.sg c q⟩
theorem Sgs.mono {z : Str} {m n : Nat} (h : Sgs z m) (hn : m ≤ n) : Sgs z n := ⟨Nat.le_trans h.len hn, h.sg⟩
/-- a row that may be too long, its cells too -/
structure RowL (r : List Str) (n m : Nat) : Prop where
  pos : 1 ≤ r.length
  len : r.length ≤ n
  cells : ∀ z ∈ r, Sgs z m
theorem _root_.TG.RowOk.loose {r : List Str} (h : RowOk r) : RowL r 6 10 := ⟨h.pos, h.len, fun z hz => (h.cells z hz).sgs⟩
theorem RowL.mono {r : List Str} {n m n' m' : Nat} (h : RowL r n m) (h1 : n ≤ n') (h2 : m ≤ m') : RowL r n' m' := ⟨h.pos, Nat.le_trans h.len h1, fun z hz => (h.cells z hz).mono h2⟩
theorem RowL.ok {r : List Str} {n m : Nat} (h : RowL r n m) (h1 : r.length ≤ 6) (h2 : ∀ z ∈ r, z.length ≤ 10) : RowOk r := ⟨h.pos, h1, fun z hz => ⟨h2 z hz, (h.cells z hz).sg⟩⟩
def fitR (r : List Str) : Bool := decide (1 ≤ r.length ∧ r.length ≤ 6) && r.all fun z => decide (z.length ≤ 10)
theorem RowL.fit {r : List Str} {n m : Nat} (h : RowL r n m) : fitR r = true ↔ RowOk r := by
  unfold fitR
  rw [Bool.and_eq_true, decide_eq_true_iff, List.all_eq_true]
  constructor
  · rintro ⟨⟨_, h1⟩, h2⟩
    exact h.ok h1 fun z hz => of_decide_eq_true (h2 z hz)
  · intro o
    exact ⟨⟨o.pos, o.len⟩, fun z hz => decide_eq_true (o.cells z hz).len⟩
def halvA (r : List Str) (c k : Nat) : List Str := r.take c ++ [zT (r.getD c nilS) k]
def halvB (r : List Str) (c k : Nat) : List Str := zD (r.getD c nilS) k :: r.drop (c + 1)
def joinR (a b : List Str) : List Str := a.dropLast ++ (a.getLast?.getD nilS ++ b.headD nilS) :: b.tail
/-- a row without its first sign, or tab; none, where nothing is there -/
def lessR (r : List Str) : Option (List Str) := if r.headD nilS ≠ nilS then some (zD (r.headD nilS) 1 :: r.tail) else if r.length = 1 then none else some r.tail
theorem getD_mem {r : List Str} {c : Nat} (h : c < r.length) : r.getD c nilS ∈ r := by
  rw [List.getD_eq_getElem?_getD, List.getElem?_eq_getElem h]
  exact List.getElem_mem h
theorem halvA_l {r : List Str} {n m c k : Nat} (h : RowL r n m) (hc : c < r.length) : RowL (halvA r c k) n m := by
  unfold halvA
  refine ⟨by simp, ?_, fun z hz => ?_⟩
  · rw [List.length_append, List.length_take, List.length_singleton]
    have := h.len
    omega
  · rcases List.mem_append.mp hz with q | q
    · exact h.cells z (List.mem_of_mem_take q)
    · rw [List.mem_singleton.mp q]
      exact (h.cells _ (getD_mem hc)).tk
theorem halvB_l {r : List Str} {n m c k : Nat} (h : RowL r n m) (hc : c < r.length) : RowL (halvB r c k) n m := by
  unfold halvB
  refine ⟨by simp, ?_, fun z hz => ?_⟩
  · rw [List.length_cons, List.length_drop]
    have := h.len
    omega
  · rcases List.mem_cons.mp hz with q | q
    · rw [q]
      exact (h.cells _ (getD_mem hc)).dr
    · exact h.cells z (List.mem_of_mem_drop q)
theorem last_mem {a : List Str} (h : 1 ≤ a.length) : a.getLast?.getD nilS ∈ a := by
  cases e : a.getLast? with
  | none => rw [List.getLast?_eq_none_iff] at e; rw [e] at h; simp at h
  | some z => exact List.mem_of_getLast? e
theorem head_mem {a : List Str} (h : 1 ≤ a.length) : a.headD nilS ∈ a := by
  cases a with
  | nil => simp at h
  | cons z a => exact List.mem_cons_self ..
theorem joinR_l {a b : List Str} {n m n' m' : Nat} (h : RowL a n m) (h2 : RowL b n' m') : RowL (joinR a b) (n + n' - 1) (m + m') := by
  unfold joinR
  have := h.pos
  have := h2.pos
  refine ⟨by rw [List.length_append, List.length_cons]; omega, ?_, fun z hz => ?_⟩
  · rw [List.length_append, List.length_cons, List.length_dropLast, List.length_tail]
    have := h.len
    have := h2.len
    omega
  · rcases List.mem_append.mp hz with q | q
    · exact (h.cells z (List.dropLast_subset a q)).mono (Nat.le_add_right _ _)
    · rcases List.mem_cons.mp q with q | q
      · rw [q]
        exact (h.cells _ (last_mem h.pos)).app (h2.cells _ (head_mem h2.pos))
      · exact (h2.cells z (List.mem_of_mem_tail q)).mono (Nat.le_add_left _ _)
theorem lessR_l {r r' : List Str} {n m : Nat} (h : RowL r n m) (e : lessR r = some r') : RowL r' n m := by
  have hp := h.pos
  unfold lessR at e
  split at e
  · cases e
    refine ⟨by simp, by rw [List.length_cons, List.length_tail]; have := h.len; omega, fun z hz => ?_⟩
    rcases List.mem_cons.mp hz with q | q
    · rw [q]
      exact (h.cells _ (head_mem h.pos)).dr
    · exact h.cells z (List.mem_of_mem_tail q)
  · split at e
    · cases e
    · cases e
      exact ⟨by rw [List.length_tail]; omega, by rw [List.length_tail]; have := h.len; omega, fun z hz => h.cells z (List.mem_of_mem_tail hz)⟩
/-! ### tuples of texts: sums and slices -/
def cutL {α : Type} (xs : List α) (lo hi : Option Int) : List α := (xs.drop (HT.sIx xs.length 0 lo)).take (HT.sIx xs.length xs.length hi - HT.sIx xs.length 0 lo)
theorem cutV_map {α : Type} (g : α → V) (xs : List α) (lo hi : Option Int) : cutV (xs.map g) lo hi = (cutL xs lo hi).map g := by
  unfold cutV cutL
  rw [List.length_map, ← List.map_drop, ← List.map_take]
theorem cutL_to {α : Type} (xs : List α) (k : Nat) : cutL xs none (some (k : Int)) = xs.take k := by
  unfold cutL
  rw [HT.sIx_none, HT.sIx_nat, List.drop_zero, Nat.sub_zero]
  by_cases h : k ≤ xs.length
  · rw [Nat.min_eq_left h]
  · rw [Nat.min_eq_right (by omega), List.take_of_length_le (by omega), List.take_of_length_le (by omega)]
theorem cutL_from {α : Type} (xs : List α) (k : Nat) : cutL xs (some (k : Int)) none = xs.drop k := by
  unfold cutL
  rw [HT.sIx_none, HT.sIx_nat, List.take_of_length_le (by rw [List.length_drop]; omega)]
  by_cases h : k ≤ xs.length
  · rw [Nat.min_eq_left h]
  · rw [Nat.min_eq_right (by omega), List.drop_eq_nil_of_le (Nat.le_refl _), List.drop_eq_nil_of_le (by omega)]
theorem cutL_mid {α : Type} {xs : List α} {b e : Nat} (h1 : b ≤ e) (h2 : e ≤ xs.length) : cutL xs (some (b : Int)) (some (e : Int)) = (xs.drop b).take (e - b) := by
  unfold cutL
  rw [HT.sIx_nat, HT.sIx_nat, Nat.min_eq_left h2, Nat.min_eq_left (Nat.le_trans h1 h2)]
theorem cutL_last {α : Type} (xs : List α) (h : 1 ≤ xs.length) : cutL xs none (some (-1)) = xs.dropLast := by
  unfold cutL
  have e : HT.sIx xs.length xs.length (some (-1)) = xs.length - 1 := by
    unfold HT.sIx
    simp only
    rw [if_pos (by decide)]
    omega
  have e0 : HT.sIx xs.length 0 none = 0 := rfl
  rw [e0, e, List.drop_zero, Nat.sub_zero]
  exact (List.dropLast_eq_take ..).symm
section
variable {K : PySem.W.Frag} {H : Hp} {a b : Addr} {xs ys : List Str} {Q : VK}
theorem cat_rows (ha : SqT K H a (sV xs)) (hb : SqT K H b (sV ys)) (hz : xs.length + ys.length ≤ 1000) (k : ∀ (p : Addr) (H' : Hp), Same H H' → SqT K H' p (sV (xs ++ ys)) → Q (.ref p) H') : rCatA K (.ref a) (.ref b) H Q := by
  have szl : (1000 : Nat) < sizeLine := by decide
  refine ⟨a, b, _, _, rfl, rfl, ha, hb, by rw [List.length_map, List.length_map]; omega, fun e => ?_, fun _ e => ?_, fun _ _ p np => ?_⟩
  · have e' : xs = [] := List.map_eq_nil_iff.mp e
    subst e'
    exact k b H (same_rf H) hb
  · have e' : ys = [] := List.map_eq_nil_iff.mp e
    subst e'
    exact k a H (same_rf H) (by rw [List.append_nil]; exact ha)
  · refine k p _ (same_new np) (SqT.of ?_)
    rw [upd_same, ← List.map_append]
theorem sl_rows {lo hi : Option Int} (ha : SqT K H a (sV xs)) (k : ∀ (p : Addr) (H' : Hp), Same H H' → SqT K H' p (sV (cutL xs lo hi)) → Q (.ref p) H') : rSlA K (.ref a) lo hi H Q := by
  refine ⟨a, _, rfl, ha, fun e => ?_, fun _ p np => k p _ (same_new np) (SqT.of ?_)⟩
  · refine k a H (same_rf H) ?_
    have e2 := cutV_map V.str xs lo hi
    unfold cutV at e2
    rw [e.1, e.2, List.drop_zero, Nat.sub_zero, List.take_of_length_le (Nat.le_refl _)] at e2
    show SqT K H a ((cutL xs lo hi).map V.str)
    rw [← e2]
    exact ha
  · rw [upd_same, cutV_map]
theorem atZ_last (h : 1 ≤ xs.length) : atI (sV xs) (-1) = some (.str (xs.getLast?.getD nilS)) := by
  refine atm1 (n := xs.length - 1) (by rw [List.length_map]; omega) ?_
  rw [List.getElem?_map, ← List.getLast?_eq_getElem?]
  cases e : xs.getLast? with
  | none => rw [List.getLast?_eq_none_iff] at e; rw [e] at h; simp at h
  | some z => rfl
theorem atZ_head (h : 1 ≤ xs.length) : atI (sV xs) 0 = some (.str (xs.headD nilS)) := by
  cases xs with
  | nil => simp at h
  | cons z xs => exact atI_nat (j := 0) rfl
theorem atZ {c : Nat} (h : c < xs.length) : atI (sV xs) (c : Int) = some (.str (xs.getD c nilS)) := by
  refine atI_nat ?_
  rw [List.getElem?_map, List.getD_eq_getElem?_getD, List.getElem?_eq_getElem h]
  rfl
end
end TGK

namespace TGK
open TG
open PySem L2 Gx
/-! ### signs and texts, whatever is asked -/
def sgB (c : Nat) : Bool := decide (32 ≤ c) && decide (c ≤ 126) && decide (c ≠ 37)
theorem sgB_iff {c : Nat} : sgB c = true ↔ SgOk c := by
  unfold sgB SgOk
  simp only [Bool.and_eq_true, decide_eq_true_eq]
  omega
def textB (z : Str) (m : Int) : Bool := decide ((z.length : Int) ≤ m) && (cl z).all sgB
/-- what is no text -/
def NoText (K : PySem.W.Frag) (H : Hp) (v : V) : Prop := ∃ nm : String, TyX K H v (.type nm) ∧ kitB nm "str" = some false
section
variable {P : Program} {w : World} {K : PySem.W.Frag} {mg : Str → Option Value} {base : Heap} {cs : List (Addr × Addr)}
def spSg2 : Sp := fun vs H Q _ => ∃ c : Nat, vs = [.str ⟨#[c]⟩] ∧ Q (.bl (sgB c)) H
theorem ok_sg2 {f : Addr} {fd : FuncData} (T : Txt mg) (N : Consts mg) (F : Fun K "is_sign" "is_sign" s_is_sign f fd) : FnOk P w K mg base CX0 1 f fd ["sign"] spSg2 := by
  refine F.ok sc_sg (fun vs H Q E h => ?_) (fun cdv A outer s H vs Q E hr h => ?_)
  · obtain ⟨c, rfl, _⟩ := h
    rfl
  · obtain ⟨c, rfl, k⟩ := h
    obtain ⟨t1, e1⟩ := N.blank
    obtain ⟨t2, e2⟩ := N.tilde
    obtain ⟨t3, e3⟩ := N.percent
    refine ⟨_, pss_one (ps_ret (pe_and (pe_chain op_le op_le (pe_glob (v := .int 32) rfl e1 ⟨_, rfl⟩) (pe_callB call_ord (by rfl) T.ord (by decide +kernel) (pa_cons (pv 0) pa_nil)) (pe_glob (v := .int 126) rfl e2 ⟨_, rfl⟩))
      (pe_one (pe_cmpR op_ne (pe_callB call_ord (by rfl) T.ord (by decide +kernel) (pa_cons (pv 0) pa_nil)) (pe_glob (v := .int 37) rfl e3 ⟨_, rfl⟩) (nomark _))))), ?_⟩
    refine ⟨_, rfl, _, rfl, rfl, 32, (c : Int), rfl, rfl, ?_⟩
    by_cases h1 : 32 ≤ c
    · refine ⟨true, dT (show (32 : Int) ≤ c by omega), iteT ⟨(c : Int), 126, rfl, rfl, ?_⟩⟩
      by_cases h2 : c ≤ 126
      · have e4 : V.bl (decide ((c : Int) ≤ 126)) = V.bl true := dT (by omega)
        refine ⟨true, e4, iteT ⟨_, rfl, _, rfl, rfl, rfl, ?_⟩⟩
        have e5 : (!decide (V.int (c : Int) = V.int 37)) = sgB c := by
          unfold sgB
          rw [decide_eq_true h1, decide_eq_true h2]
          by_cases h3 : c = 37
          · subst h3
            rfl
          · rw [decide_eq_false (show ¬ V.int (c : Int) = V.int 37 from fun z => by injection z with z; exact h3 (by omega)), decide_eq_true (show c ≠ 37 from h3)]
            rfl
        show Q (.bl (!decide (V.int (c : Int) = V.int 37))) H
        rw [e5]
        exact k
      · have e4 : V.bl (decide ((c : Int) ≤ 126)) = V.bl false := dF (by omega)
        have e5 : sgB c = false := by
          unfold sgB
          rw [decide_eq_false h2, Bool.and_false, Bool.false_and]
        rw [e5] at k
        exact ⟨false, e4, iteF k⟩
    · have e5 : sgB c = false := by
        unfold sgB
        rw [decide_eq_false h1, Bool.false_and, Bool.false_and]
      rw [e5] at k
      refine ⟨false, dF (by omega), iteF ⟨false, ?_, iteF ?_⟩⟩
      · first | rfl | exact dF (by omega)
      · exact k
def spText2 (K : PySem.W.Frag) (cs : List (Addr × Addr)) : Sp := fun vs H Q _ => ∃ (v : V) (m : Int) (b : Bool), vs = [v, .int m] ∧ Tabs cs H ∧ ((NoText K H v ∧ b = false) ∨ ∃ z, v = .str z ∧ z.length ≤ 1000 ∧ b = textB z m) ∧ ∀ H', Ex cs H H' → Q (.bl b) H'
theorem ok_text2 {f c Pt g : Addr} {fd fdg : FuncData} (T : Txt mg) (F : Fun K "is_text_of_signs" "is_text_of_signs" s_is_text f fd) (hc : fd.code = .ref c) (TB : GxR.TabB base mg c Pt) (hm : (c, Pt) ∈ cs)
    (G : FnOk P w K mg base CX0 1 g fdg ["sign"] spSg2) (kp : PySem.W.keepIn K (.ref g) = true) (bd : Binds K fdg ["sign"] []) (mgg : mg "is_sign" = some (.ref g)) : FnOk P w K mg base CX0 5 f fd ["value", "most"] (spText2 K cs) := by
  refine fun_okT F hc sc_text (fun vs H Q E h => ?_) (fun A outer s H vs Q E hr h => ?_)
  · obtain ⟨v, m, b, rfl, _⟩ := h
    rfl
  · obtain ⟨v, m, b, rfl, hT, hv, k⟩ := h
    refine ⟨_, pss_one (ps_ret (pe_and (pe_callB call_isi (by rfl) T.isin (by decide +kernel) (pa_cons (pv 0) (pa_cons (pe_bltn (v := .ty "str") (by rfl) T.str (by decide +kernel) rfl) pa_nil)))
      (pe_and (pe_cmpR op_le (pe_callB call_len_str (by rfl) T.len PySem.boot_len (pa_cons (pv 0) pa_nil)) (pv 1) (nomark _))
        (pe_one (pe_allG (k := 1) (P := Pt) hr (by rfl) T.all TB rfl ⟨rfl, rfl, by decide +kernel, by decide +kernel, rfl, rfl⟩ (pi_str (pv 0)) (fun A' code s4 H4 fp hr' => pe_call G hr' (by rfl) mgg kp bd .nil pass0 (pa_cons (pv 0) pa_nil)) (fun _ => rfl)))))), ?_⟩
    rcases hv with ⟨⟨nm, ty, hk⟩, rfl⟩ | ⟨z, rfl, h2, rfl⟩
    · exact ⟨_, rfl, _, _, _, _, false, rfl, .ty _, ty, kit_ty hk, false, rfl, iteF (k _ (Ex.refl hT))⟩
    · refine ⟨_, rfl, _, _, _, _, true, rfl, .ty _, .base (.str z), kit_ty (by decide +kernel), true, rfl, iteT ⟨_, rfl, z, rfl, line10 h2, _, rfl, _, _, rfl, rfl, ?_⟩⟩
      by_cases h1 : (z.length : Int) ≤ m
      · have hB : textB z m = (cl z).all sgB := by
          unfold textB
          rw [decide_eq_true h1, Bool.true_and]
        refine ⟨true, dT h1, iteT ⟨_, rfl, z, rfl, hT _ hm, fun H2 hH2 => ?_⟩⟩
        have x2 := Ex.tabbed hT hm hH2
        refine all_by (w := walk_str (z := z)) (fun i => match (cl z)[i]? with | some c => sgB c | none => true) (fun _ H' => Ex cs H H') x2 (fun _ _ _ _ => trivial) (fun i v H3 H4 hi x y Z hZ => ?_) (fun H3 x hall => ?_) (fun i H3 hi hff x => ?_)
        · obtain ⟨rfl, c, hc, rfl⟩ := y
          have hc2 : (cl z)[i]? = some c := by rw [Array.getElem?_toList]; exact hc
          refine ⟨_, rfl, c, rfl, ?_⟩
          have := hZ _ x
          rw [hc2] at this
          exact this
        · have e : textB z m = true := by
            rw [hB, List.all_eq_true]
            intro c hcm
            obtain ⟨i, hi, e⟩ := List.getElem_of_mem hcm
            have q := hall i (by have := len_cl z; omega)
            rw [List.getElem?_eq_getElem hi, e] at q
            exact q
          rw [← e]
          exact k _ x
        · have e : textB z m = false := by
            rw [hB, Bool.eq_false_iff]
            intro q
            rw [List.all_eq_true] at q
            have hi2 : i < (cl z).length := by have := len_cl z; omega
            rw [List.getElem?_eq_getElem hi2] at hff
            have := q _ (List.getElem_mem hi2)
            rw [show sgB (cl z)[i] = false from hff] at this
            cases this
          rw [← e]
          exact k _ x
      · have e : textB z m = false := by
          unfold textB
          rw [decide_eq_false h1, Bool.false_and]
        rw [e] at k
        exact ⟨false, dF h1, iteF (k _ (Ex.refl hT))⟩
end
end TGK

namespace TGK
open TG
open PySem PySem.Spec PyProof.Rows L2 Gx EnT
/-! ### errors, checks, rows parted and joined -/
/-- an own class of errors that is made with a text -/
structure ErrC (K : PySem.W.Frag) (mg : Str → Option Value) (x : Str) (C G : Addr) : Prop where
  mg_ : mg x = some (.ref C)
  exc : PySem.W.excIn K C [.type "ValueError", .type "Exception", .type "BaseException", .type "object"] "ValueError.__new__" = true
  kp : PySem.W.keepIn K (.ref C) = true
  sub : PySem.W.subIn K (.ref C) (.type "BaseException") = some true
  ty : PySem.W.typeIn K (.ref C) = some (.type "type")
  up : PySem.W.exmOne K (.ref C) (.ref G) = some true
structure SErr (K : PySem.W.Frag) (mg : Str → Option Value) (R C G : Addr) : Prop where
  row : ErrC K mg "BadRow" R G
  cell : ErrC K mg "BadCell" C G
  grow : mg "GrowError" = some (.ref G)
/-- rows at addresses -/
structure RowsAt (K : PySem.W.Frag) (H : Hp) (as : List Addr) (rows : List (List Str)) : Prop where
  len : as.length = rows.length
  row : ∀ (i : Nat) (p : Addr) (r : List Str), as[i]? = some p → rows[i]? = some r → SqT K H p (sV r)
theorem _root_.TG.PageAt.rows {K : PySem.W.Frag} {H : Hp} {a : Addr} {as : List Addr} {rows : List (List Str)} (p : PageAt K H a as rows) : RowsAt K H as rows := ⟨p.len, p.row⟩
section
variable {P : Program} {w : World} {K : PySem.W.Frag} {mg : Str → Option Value} {base : Heap} {cs : List (Addr × Addr)} {R C G : Addr}
def spWholeB : Sp := fun vs H Q _ => ∃ (i lo hi : Int), vs = [.int i, .int lo, .int hi] ∧ Q (.bl (decide (lo ≤ i ∧ i ≤ hi))) H
theorem ok_wholeB {f : Addr} {fd : FuncData} (T : Txt mg) (F : Fun K "is_whole" "is_whole" s_is_whole f fd) : FnOk P w K mg base CX0 1 f fd ["value", "low", "high"] spWholeB := by
  refine F.ok sc_whole (fun vs H Q E h => ?_) (fun cdv A outer s H vs Q E hr h => ?_)
  · obtain ⟨i, lo, hi, rfl, _⟩ := h
    rfl
  · obtain ⟨i, lo, hi, rfl, k⟩ := h
    refine ⟨_, pss_one (ps_ret (pe_and (pe_callB call_isi (by rfl) T.isin (by decide +kernel) (pa_cons (pv 0) (pa_cons (pe_bltn (v := .ty "int") (by rfl) T.int (by decide +kernel) rfl) pa_nil)))
      (pe_and (pe_not (pe_callB call_isi (by rfl) T.isin (by decide +kernel) (pa_cons (pv 0) (pa_cons (pe_bltn (v := .ty "bool") (by rfl) T.bool (by decide +kernel) rfl) pa_nil)))) (pe_one (pe_chain op_le op_le (pv 1) (pv 0) (pv 2)))))), ?_⟩
    refine ⟨_, rfl, _, _, _, _, true, rfl, .ty _, .base (.int i), kit_ty (by decide +kernel), true, rfl, iteT ⟨_, rfl, _, _, _, _, false, rfl, .ty _, .base (.int i), kit_ty (by decide +kernel), false, rfl, true, rfl, iteT ⟨_, rfl, _, rfl, lo, i, rfl, rfl, ?_⟩⟩⟩
    by_cases h1 : lo ≤ i
    · refine ⟨true, dT h1, iteT ⟨_, rfl, i, hi, rfl, rfl, ?_⟩⟩
      have e : decide (lo ≤ i ∧ i ≤ hi) = decide (i ≤ hi) := by simp [h1]
      rw [e] at k
      exact k
    · have e : decide (lo ≤ i ∧ i ≤ hi) = false := decide_eq_false fun z => h1 z.1
      rw [e] at k
      exact ⟨false, dF h1, iteF k⟩
theorem sc_num : FnScope ["number", "last"] ["number", "last"] (defScope s_check_number) := ⟨rfl, rfl, rfl, by decide +kernel, rfl, by decide +kernel, by decide +kernel⟩
/-- a number that is one -/
def spNum0 : Sp := fun vs H Q _ => ∃ (n last : Int), vs = [.int n, .int last] ∧ 0 ≤ n ∧ n ≤ last ∧ Q .non H
theorem ok_num0 {f g : Addr} {fd fdg : FuncData} (F : Fun K "check_number" "check_number" s_check_number f fd)
    (W : FnOk P w K mg base CX0 1 g fdg ["value", "low", "high"] spWholeB) (kp : PySem.W.keepIn K (.ref g) = true) (bd : Binds K fdg ["value", "low", "high"] []) (mgg : mg "is_whole" = some (.ref g)) : FnOk P w K mg base CX0 2 f fd ["number", "last"] spNum0 := by
  refine F.ok sc_num (fun vs H Q E h => ?_) (fun cdv A outer s H vs Q E hr h => ?_)
  · obtain ⟨n, last, rfl, _⟩ := h
    rfl
  · obtain ⟨n, last, rfl, h1, h2, k⟩ := h
    refine ⟨_, pss_one (ps_if (pt_not (pt_val (pe_call W hr (by rfl) mgg kp bd .nil pass0 (pa_cons (pv 0) (pa_cons pe_int (pa_cons (pv 1) pa_nil)))))) (pss_one ps_never) pss_nil), ?_⟩
    refine ⟨_, rfl, _, rfl, n, 0, last, rfl, true, ?_, iteF k⟩
    rw [decide_eq_true ⟨h1, h2⟩]
/-- a number that is one, or none -/
def spNum (R : Addr) : Sp := fun vs H Q E => ∃ (n last : Int), vs = [.int n, .int last] ∧ (0 ≤ n ∧ n ≤ last → Q .non H) ∧ (¬ (0 ≤ n ∧ n ≤ last) → E (.ref R) none H)
theorem ok_num {f g : Addr} {fd fdg : FuncData} (Er : SErr K mg R C G) (F : Fun K "check_number" "check_number" s_check_number f fd)
    (W : FnOk P w K mg base CX0 1 g fdg ["value", "low", "high"] spWholeB) (kp : PySem.W.keepIn K (.ref g) = true) (bd : Binds K fdg ["value", "low", "high"] []) (mgg : mg "is_whole" = some (.ref g)) : FnOk P w K mg base (L2.CX P w) 2 f fd ["number", "last"] (spNum R) := by
  refine F.okX sc_num (fun vs H Q E h => ?_) (fun cdv A outer s H vs Q E hr h => ?_)
  · obtain ⟨n, last, rfl, _⟩ := h
    rfl
  · obtain ⟨n, last, rfl, k1, k2⟩ := h
    refine ⟨_, pss_one (ps_if (pt_not (pt_val (pe_call W hr (by rfl) mgg kp bd .nil pass0 (pa_cons (pv 0) (pa_cons pe_int (pa_cons (pv 1) pa_nil))))))
      (pss_one (ps_raise rfl (takes_of rfl rfl rfl rfl) (pmk_own PySem.F.excBase_ValueError Er.row.exc Er.row.mg_ Er.row.kp (raises_own Er.row.sub Er.row.ty) rfl))) pss_nil), ?_⟩
    refine ⟨_, rfl, _, rfl, n, 0, last, rfl, _, rfl, ?_⟩
    by_cases h : 0 ≤ n ∧ n ≤ last
    · rw [decide_eq_true h]
      exact iteF (k1 h)
    · rw [decide_eq_false h]
      exact iteT (k2 h)
abbrev tabS : Str := "\t"
def spCSign (cs : List (Addr × Addr)) : Sp := fun vs H Q _ => ∃ (z : Str), vs = [.str z] ∧ Tabs cs H ∧ (z = tabS ∨ (Sgs z 1 ∧ z ≠ nilS)) ∧ ∀ H', Ex cs H H' → Q .non H'
theorem vstr_ne {a b : Str} : (!decide (V.str a = V.str b)) = decide (a ≠ b) := by
  by_cases h : a = b
  · rw [decide_eq_true (by rw [h]), decide_eq_false (by simp [h])]
    rfl
  · rw [decide_eq_false (fun z => h (by injection z)), decide_eq_true h]
    rfl
/-- is_filled of a text that is one -/
def spFilled (cs : List (Addr × Addr)) : Sp := fun vs H Q _ => ∃ (z : Str) (m : Int), vs = [.str z, .int m] ∧ Tabs cs H ∧ (z.length : Int) ≤ m ∧ z.length ≤ 1000 ∧ (∀ c ∈ z.cps.toList, SgOk c) ∧ z ≠ nilS ∧ ∀ H', Ex cs H H' → Q (.bl true) H'
/-- is_row of a row whose cells are of signs -/
def spRowB (K : PySem.W.Frag) (cs : List (Addr × Addr)) : Sp := fun vs H Q _ => ∃ (a : Addr) (r : List Str), vs = [.ref a] ∧ Tabs cs H ∧ SqT K H a (sV r) ∧ RowL r 100 100 ∧ ∀ H', Ex cs H H' → Q (.bl (fitR r)) H'
theorem sgs_textB {z : Str} {m : Nat} (h : Sgs z m) : textB z 10 = decide (z.length ≤ 10) := by
  have e : (cl z).all sgB = true := by
    rw [List.all_eq_true]
    intro c hc
    have := h.sg c hc
    unfold sgB
    obtain ⟨h1, h2, h3⟩ := this
    simp [h1, h2, h3]
  unfold textB
  rw [e, Bool.and_true]
  by_cases q : z.length ≤ 10
  · rw [decide_eq_true q, decide_eq_true (show ((z.length : Nat) : Int) ≤ 10 by omega)]
  · rw [decide_eq_false q, decide_eq_false (show ¬ ((z.length : Nat) : Int) ≤ 10 by omega)]
theorem ok_rowB {f c Pt g : Addr} {fd fdg : FuncData} (T : Txt mg) (N : Consts mg) (F : Fun K "is_row" "is_row" s_is_row f fd) (hc : fd.code = .ref c) (TB : GxR.TabB base mg c Pt) (hm : (c, Pt) ∈ cs)
    (W : FnOk P w K mg base CX0 5 g fdg ["value", "most"] (spText2 K cs)) (kp : PySem.W.keepIn K (.ref g) = true) (bd : Binds K fdg ["value", "most"] []) (mgg : mg "is_text_of_signs" = some (.ref g)) : FnOk P w K mg base CX0 9 f fd ["value"] (spRowB K cs) := by
  refine fun_okT F hc sc_row (fun vs H Q E h => ?_) (fun A outer s H vs Q E hr h => ?_)
  · obtain ⟨a, r, rfl, _⟩ := h
    rfl
  · obtain ⟨a, r, rfl, hT, hS, hL, k⟩ := h
    obtain ⟨t1, e1⟩ := N.cells
    obtain ⟨t2, e2⟩ := N.signs
    refine ⟨_, pss_cons (ps_if (PW.pt (pw_or (pt_not (pt_val (pe_callB call_isi (by rfl) T.isin (by decide +kernel) (pa_cons (pv 0) (pa_cons (pe_bltn (v := .ty "tuple") (by rfl) T.tuple (by decide +kernel) rfl) pa_nil)))))
        (pw_or1 (pt_not (pt_chain op_le op_le pe_int (pe_callB call_len_seq (by rfl) T.len PySem.boot_len (pa_cons (pv 0) pa_nil)) (pe_glob (v := .int 6) rfl e1 ⟨_, rfl⟩)))))) (pss_one (ps_ret pe_bl)) pss_nil)
      (pss_one (ps_ret (pe_allG (k := 5) (P := Pt) hr (by rfl) T.all TB rfl ⟨rfl, rfl, by decide +kernel, by decide +kernel, rfl, rfl⟩ (pi_tup (pv 0))
        (fun A' code s4 H4 fp hr' => pe_call W hr' (by rfl) mgg kp bd .nil pass0 (pa_cons (pv 0) (pa_cons (pe_glob (v := .int 10) rfl e2 ⟨_, rfl⟩) pa_nil))) (fun _ => rfl)))), ?_⟩
    have hl : (sV r).length = r.length := List.length_map ..
    have hpos := hL.pos
    refine ⟨_, rfl, _, _, _, _, true, rfl, .ty _, ty_tup hS, kit_ty (by decide +kernel), true, rfl, iteF ⟨_, rfl, a, _, rfl, .inr hS, 1, _, rfl, rfl, true, dT (by omega), iteT ⟨_, 6, rfl, rfl, ?_⟩⟩⟩
    by_cases h6 : r.length ≤ 6
    · refine ⟨true, dT (by omega), iteF ⟨_, rfl, a, rfl, ⟨_, hS⟩, hT _ hm, fun H2 hH2 => ?_⟩⟩
      have x2 := Ex.tabbed hT hm hH2
      refine all_by (w := walk_tup (a := a) (xs := sV r)) (fun i => match r[i]? with | some z => decide (z.length ≤ 10) | none => true) (fun _ H' => Ex cs H H') x2 (fun i H' _ x => x.sqT hS) (fun i v H3 H4 hi x y Z hZ => ?_) (fun H3 x hall => ?_) (fun i H3 hi hff x => ?_)
      · obtain ⟨rfl, hv⟩ := y
        obtain ⟨z, hz, rfl⟩ := get_map hv
        have hg := hL.cells z (List.mem_of_getElem? hz)
        have hg1 := hg.len
        refine ⟨_, rfl, .str z, 10, _, rfl, x.tab, .inr ⟨z, rfl, by omega, rfl⟩, fun H5 x5 => ?_⟩
        rw [sgs_textB hg]
        have := hZ _ (x.trans x5)
        rw [hz] at this
        exact this
      · have e : fitR r = true := hL.fit.mpr (hL.ok h6 fun z hz => by
          obtain ⟨i, hi, e⟩ := List.getElem_of_mem hz
          have q := hall i (by omega)
          rw [List.getElem?_eq_getElem hi, e] at q
          exact of_decide_eq_true q)
        rw [← e]
        exact k _ x
      · have e : fitR r = false := by
          rw [Bool.eq_false_iff]
          intro q
          have o := hL.fit.mp q
          have hi2 : i < r.length := by omega
          rw [List.getElem?_eq_getElem hi2] at hff
          exact absurd (o.cells _ (List.getElem_mem hi2)).len (of_decide_eq_false hff)
        rw [← e]
        exact k _ x
    · refine ⟨false, dF (by omega), iteT ?_⟩
      have e : fitR r = false := by
        rw [Bool.eq_false_iff]
        intro q
        exact h6 (hL.fit.mp q).len
      rw [← e]
      exact k _ (Ex.refl hT)
theorem sc_fits : FnScope ["many", "rows", "row"] ["many", "rows"] (defScope s_check_fits) := ⟨rfl, rfl, rfl, by decide +kernel, rfl, by decide +kernel, by decide +kernel⟩
/-- check_fits -/
def fitsR (m : Int) (new : List (List Str)) : Bool := decide (1 ≤ m ∧ m ≤ 30) && new.all fitR
/-- which class a refused change of rows raises -/
def clsF (R C : Addr) (m : Int) : Addr := if 1 ≤ m ∧ m ≤ 30 then C else R
def spFits (K : PySem.W.Frag) (cs : List (Addr × Addr)) (R C : Addr) : Sp := fun vs H Q E => ∃ (m : Int) (nl : Addr) (nas : List Addr) (new : List (List Str)), vs = [.int m, .ref nl] ∧ Tabs cs H ∧ H nl = some (.lst (nas.map V.ref)) ∧ RowsAt K H nas new ∧ (∀ r ∈ new, RowL r 100 100) ∧
  (fitsR m new = true → ∀ H', Ex cs H H' → Q .non H') ∧ (fitsR m new = false → ∀ H', Ex cs H H' → E (.ref (clsF R C m)) none H')
theorem ok_fits {f g : Addr} {fd fdg : FuncData} (N : Consts mg) (Er : SErr K mg R C G) (F : Fun K "check_fits" "check_fits" s_check_fits f fd)
    (W : FnOk P w K mg base CX0 9 g fdg ["value"] (spRowB K cs)) (kp : PySem.W.keepIn K (.ref g) = true) (bd : Binds K fdg ["value"] []) (mgg : mg "is_row" = some (.ref g)) : FnOk P w K mg base (L2.CX P w) 11 f fd ["many", "rows"] (spFits K cs R C) := by
  refine F.okX sc_fits (fun vs H Q E h => ?_) (fun cdv A outer s H vs Q E hr h => ?_)
  · obtain ⟨m, nl, nas, new, rfl, _⟩ := h
    rfl
  · obtain ⟨m, nl, nas, new, rfl, hT, hN, hA, hL, k1, k2⟩ := h
    have nd := sc_fits.nd
    obtain ⟨t1, e1⟩ := N.rows
    refine ⟨_, pss_cons (ps_if (pt_not (pt_chain op_le op_le pe_int (pv 0) (pe_glob (v := .int 30) rfl e1 ⟨_, rfl⟩)))
        (pss_one (ps_raise rfl (takes_of rfl rfl rfl rfl) (pmk_own PySem.F.excBase_ValueError Er.row.exc Er.row.mg_ Er.row.kp (raises_own Er.row.sub Er.row.ty) rfl))) pss_nil)
      (pss_one (ps_for (passes_of rfl) rfl (pi_list (pv 1)) (pg_name (i := 2) nd rfl (.inl rfl))
        (pss_one (ps_if (pt_not (pt_val (pe_call W (hr.mono (by decide)) (by rfl) mgg kp bd .nil pass0 (pa_cons (pv 2) pa_nil))))
          (pss_one (ps_raise rfl (takes_of rfl rfl rfl rfl) (pmk_own PySem.F.excBase_ValueError Er.cell.exc Er.cell.mg_ Er.cell.kp (raises_own Er.cell.sub Er.cell.ty) rfl))) pss_nil)))), ?_⟩
    have no : ¬ (1 ≤ m ∧ m ≤ 30) → E (.ref R) none H := fun h => by
      have := k2 (by unfold fitsR; rw [decide_eq_false h, Bool.false_and]) _ (Ex.refl hT)
      unfold clsF at this
      rw [if_neg h] at this
      exact this
    refine ⟨_, rfl, 1, m, rfl, rfl, ?_⟩
    by_cases h1 : 1 ≤ m
    · refine ⟨true, dT h1, iteT ⟨m, 30, rfl, rfl, ?_⟩⟩
      by_cases h2 : m ≤ 30
      · refine ⟨true, dT h2, iteF ?_⟩
        have ef : fitsR m new = new.all fitR := by unfold fitsR; rw [decide_eq_true ⟨h1, h2⟩, Bool.true_and]
        rw [ef] at k1 k2
        refine ⟨_, rfl, nl, rfl, ⟨_, SqL.of hN⟩, for_list (xs := nas.map V.ref) (fun i σ H' => Ex cs H H' ∧ (∀ j r, j < i → new[j]? = some r → fitR r = true) ∧ ∃ c, σ = [some (.int m), some (.ref nl), c]) ⟨Ex.refl hT, fun j r hj => absurd hj (Nat.not_lt_zero _), none, rfl⟩ (fun i σ H' _ x => x.1.sqL (SqL.of hN)) ?_ ?_⟩
        · rintro i x σ H3 hx ⟨x3, ha, c, rfl⟩
          obtain ⟨q, hq, rfl⟩ := get_map hx
          have hi2 : i < new.length := by have := (List.getElem?_eq_some_iff.mp hq).1; rw [hA.len] at this; exact this
          obtain ⟨r, hr2⟩ := getP (xs := new) (i := i) hi2
          refine ⟨_, rfl, q, r, rfl, x3.tab, x3.sqT (hA.row i q r hq hr2), hL r (List.mem_of_getElem? hr2), fun H4 x4 => ⟨_, rfl, ?_⟩⟩
          cases e : fitR r with
          | true =>
            refine iteF ⟨x3.trans x4, fun j r' hj e' => ?_, _, rfl⟩
            by_cases hji : j = i
            · subst hji
              rw [hr2] at e'
              cases e'
              exact e
            · exact ha j r' (by omega) e'
          | false =>
            have ec : clsF R C m = C := if_pos ⟨h1, h2⟩
            rw [ec] at k2
            refine iteT (k2 ?_ _ (x3.trans x4))
            rw [Bool.eq_false_iff]
            intro z
            rw [List.all_eq_true] at z
            rw [z r (List.mem_of_getElem? hr2)] at e
            cases e
        · rintro σ H3 ⟨x3, ha, c, rfl⟩
          refine k1 ?_ _ x3
          rw [List.all_eq_true]
          intro r hr2
          obtain ⟨i, hi, e⟩ := List.getElem_of_mem hr2
          exact ha i r (by rw [List.length_map, hA.len]; exact hi) (by rw [List.getElem?_eq_getElem hi, e])
      · exact ⟨false, dF h2, iteT (no fun z => h2 z.2)⟩
    · exact ⟨false, dF h1, iteF ⟨false, rfl, iteT (no fun z => h1 z.1)⟩⟩
end
end TGK

namespace TG
open PySem PySem.Spec PyProof.Rows L2 NdefX GenW Gx Lv
/-! ### list.count, flat items -/
theorem cntU {y : V} : ∀ {ys : List V} {its : List Value}, Vals ys its → ys.all flatV = true → its.countP (eqU y) = ys.countP (fun z => eqV z y)
  | [], _, .nil, _ => rfl
  | z :: ys, _, .cons r t, f => by
    rw [List.all_cons, Bool.and_eq_true] at f
    rw [List.countP_cons, List.countP_cons, eqU_of r f.1, cntU t f.2]
def rCnt (K : PySem.W.Frag) : V → List V → Hp → VK → Prop := fun x xs H Q => ∃ (a : Addr) (ys : List V) (y : V), x = .ref a ∧ xs = [y] ∧ SqL K H a ys ∧ flatV y = true ∧ ys.all flatV = true ∧ Q (.int (ys.countP (fun z => eqV z y) : Nat)) H
theorem mt_cnt {X : Cx} : MtR X "list.count" (rCnt X.K) := by
  intro pins s σ H x xs v us Q I rx rxs h
  obtain ⟨a, ys, y, rfl, rfl, hs, fy, fys, q⟩ := h
  cases rx
  obtain ⟨u, rfl, ru⟩ := rxs.one
  obtain ⟨its, rv, ⟨⟨cls, dd, data, sl⟩, n, ho, hc, hdn, hd⟩, hlen⟩ := I.list hs
  simp only at hc hd
  subst hc hd
  have ec : its.toArray.toList.countP (eqU y) = ys.countP (fun z => eqV z y) := cntU rv fys
  refine call_meets PySem.F.slot_list_count ⟨_, ho, rfl⟩ PySem.F.entry_list_count (PySem.F.args_list_count_2 _ _) (SeqAt.list_countAt a its.toArray n dd sl u (eqU y)) ⟨ho, fun w hw => mem_eqAt ru fy rv fys w (by simpa using hw), ?_⟩
  refine ⟨.int (ys.countP (fun z => eqV z y) : Nat), H, I.tok _, ⟨s.toks, ?_⟩, q⟩
  rw [← ec]
/-! ### isinstance and fields of a caught error -/
/-- its dict, if it has one, is told of -/
def XdAt (H : Hp) (d : Option Addr) : Prop := d = none ∨ ∃ dd fs, d = some dd ∧ H dd = some (.xd fs)
def rIsX (K : PySem.W.Frag) (cls : Value) (d : Option Addr) (a : Addr) : List V → Hp → VK → Prop := fun xs H Q => ∃ (c : V) (cv : Value) (b : Bool) (D : Addr), xs = [.ref a, c] ∧ cls = .ref D ∧ ExcC K D ∧ (∀ u, RelV c u → u = cv) ∧ PySem.W.kitOne K (.ref D) cv = some b ∧ XdAt H d ∧ Q (.bl b) H
theorem isCls_of {K : PySem.W.Frag} {D : Addr} (h : PySem.W.hasDictIn K D = true) : (PySem.W.clsIn K D).isSome = true := by
  obtain ⟨cd, hc, _⟩ := PySem.W.any_some h
  rw [hc]
  rfl
section
variable {X : Cx} {a : Addr} {oe : Obj} {cls : Value} {d : Option Addr} {pn : List (Addr × Obj)}
theorem call_isX (hz : Zc cls d oe) (hf : ∃ vs, oe.data = .fields vs) : CallR (X.suite a ((a, oe) :: pn)) (.builtin "isinstance") (rIsX X.K cls d a) := by
  intro pins s σ H xs us Q I r h
  obtain ⟨c, cv, b, D, rfl, rfl, C, hcv, e, hd, q⟩ := h
  cases r with
  | cons rx rr =>
    cases rr with
    | cons rt rr =>
      cases rr
      cases rx
      have ec := hcv _ rt
      subst ec
      obtain ⟨hget, _⟩ := I.pin (a, oe) (List.mem_append.mpr (.inl List.mem_cons_self))
      obtain ⟨vs, hv⟩ := hf
      have nc : PySem.W.notCls oe = true := by
        unfold PySem.W.notCls
        rw [hv] <;> rfl
      have fin : ∀ tk, EP (X.suite a ((a, oe) :: pn)) pins σ Q (.bool b) { s with toks := tk } := fun tk => ⟨.bl b, H, I.kept (t' := tk) fun _ _ z => z, rfl, q⟩
      rcases hd with rfl | ⟨dd, fs, rfl, hdd⟩
      · have J : PySem.W.InstAt s.heap a oe D none := by
          obtain ⟨h1, h2⟩ := hz
          refine ⟨hget, h1, nc, ?_⟩
          rw [h2]
          trivial
        exact PySem.W.kia_one (PySem.W.kitx_exc (isCls_of C.hd) C.hg C.hk C.hs C.ha C.hn C.ht C.hm) I.kIn J e (fun z => nomatch z) fin
      · have hx : ObjOk X.prog X.w H s.heap dd (.xd fs) := I.hok dd _ hdd
        obtain ⟨mA, hns, _⟩ := hx
        obtain ⟨od, ho, _⟩ := lookIn_ns hns
        have J : PySem.W.InstAt s.heap a oe D (some od) := ⟨hget, hz.1, nc, by rw [hz.2]; exact ho⟩
        exact PySem.W.kia_one (PySem.W.kitx_exc (isCls_of C.hd) C.hg C.hk C.hs C.ha C.hn C.ht C.hm) I.kIn J e (fun z => nomatch z) fin
def tXfX (K : PySem.W.Frag) (a : Addr) (cls : Value) (d : Option Addr) (f : Str) (te : TE) : TE := fun σ H Q => ∃ C : Addr, XfC K C ∧ PySem.W.findIn K (.ref C) f = some none ∧ tXf a cls d C f te σ H Q
theorem pe_xfX {e : Expr} {te : TE} {pos : Pos} {n : Str} (hz : Zc cls d oe) (hf : ∃ vs, oe.data = .fields vs) (he : PE (X.suite a ((a, oe) :: pn)) e te) (hb : attributeBase e n X.env (eval e X.env) = eval e X.env := by rfl) :
    PE (X.suite a ((a, oe) :: pn)) (.Attribute e n pos) (tXfX X.K a cls d n te) := by
  refine ⟨fun pins s σ H Q I h => ?_⟩
  obtain ⟨C, T, hno, h⟩ := h
  exact (pe_xf T hno hz hf he hb).run pins s σ H Q I h
end
/-! ### rules for an except suite, whose readings don't speak of the error's object -/
section
variable {X : Cx} {a : Addr} {l : List (Addr × Obj)}
theorem ix_listU : IxR (X.suite a l) (rIxL X.K) := ix_list
theorem op_inU : OpR (X.suite a l) (compareOp .In) (rIn X.K false) := op_in_seq
theorem mt_cntU : MtR (X.suite a l) "list.count" (rCnt X.K) := mt_cnt
theorem mt_indexU : MtR (X.suite a l) "list.index" (rIndex X.K) := mt_index
theorem pe_bmU {T name id : String} {r : V → List V → Hp → VK → Prop} {o e : Expr} {es : List Expr} {to : TE} {t : L2.TA} {apos cpos : Pos} (pa : PlainAttrs T) (slot : Slot T (name : Str) id) (hty : typeOf (.builtin id) = pure (.type "method_descriptor")) (hm : MtR (X.suite a l) id r)
    (ho : PE (X.suite a l) o to) (ha : PA (X.suite a l) (e :: es) t) (hbase : attributeBase o (name : Str) X.env (eval o X.env) = eval o X.env := by rfl)
    (hfew : ((backTo cpos (starEach (e :: es) X.env)).all (fun x => !x.1) && (backToKw cpos (keywordEach [] X.env)).all (fun x => x.1.isSome) && decide ((e :: es).length + ([] : List Keyword).length + (if ([] : List Keyword).isEmpty then 0 else 1) < 30)) = true := by rfl)
    (hline : (apos.endLine == cpos.line) = true := by rfl) (hs : starEach (e :: es) X.env = (false, eval e X.env) :: starEach es X.env := by rfl) (hplain : (backTo cpos (starEach es X.env)).any (·.1) = false := by rfl) :
    PE (X.suite a l) (.Call (.Attribute o (name : Str) apos) (e :: es) [] cpos) (tBM X.K T r to t) := pe_bm pa slot hty hm ho ha hbase hfew hline hs hplain
end
theorem xfC_of {K : PySem.W.Frag} {C : Addr} (h : ExcC K C) : XfC K C := ⟨h.hg, h.hk, h.hs, h.hd⟩
/-! ### a call by name of a lambda without parameters, in a try -/
def tCallX (P : Program) (w : World) (K : PySem.W.Frag) (mg : Str → Option Value) (base : Heap) (k i : Nat) (W : WX) : TE := fun σ H Q => ∃ (f : Addr) (F : NF) (e : Expr) (sp : Sp), σ[i]? = some (some (.ref f)) ∧ H f = some (FnL f F e) ∧ H F.c = some (LamX.CodeO F.c F.qual) ∧ LOkX P w K mg base k f F e sp ∧ sp [] H Q (WE W σ)
theorem pe_callX {X : Cx} {W : WX} {i k : Nat} {x : Str} {p pos : Pos} {P : Program} {w : World} {K : PySem.W.Frag} {mg : Str → Option Value} {base : Heap} (eX : X.prog = P ∧ X.w = w ∧ X.K = K ∧ X.mg = mg ∧ X.base = base) (hr : Room k X.A) (tk : Takes X W) (hN : X.N[i]? = some x) (hv : Vis X.env.scope x) (hd : (x == ("__debug__" : Str)) = false := by decide) (hcd : (x == ("__classdict__" : Str)) = false := by decide) :
    PE X (.Call (.Name x p) [] [] pos) (tCallX P w K mg base k i W) := by
  obtain ⟨rfl, rfl, rfl, rfl, rfl⟩ := eX
  refine ⟨fun pins s σ H Q I h => ?_⟩
  obtain ⟨f, F, b, sp, hs, hf, hc, L, q⟩ := h
  refine wpAny_Call_Name_kw (thn ((pe_var (pos := p) hN hv hd hcd).run pins s σ H (fun v H1 => v = .ref f ∧ H1 = H) I ⟨.ref f, hs, rfl, rfl⟩) fun u s1 ⟨v, H1, I1, r1, q1⟩ => ?_)
  obtain ⟨ev, eH⟩ := q1
  subst ev eH
  obtain rfl : u = Value.ref f := r1
  have at_ : PySem.W.FnAt f s1.heap := by
    obtain ⟨od, sl, pm, ctv, ho⟩ := fnL_at I1.hok hf
    exact ⟨_, od, _, sl, ho⟩
  refine PySem.W.callWith_F0 (first := []) at_ ?_
  refine wpAny_call (codeAny_mono (L.run X.A X.stack s1 H1 Q (WE W σ) hr I1.env0 hf hc q) fun r' s' hq => ?_)
  cases r' with
  | error er => exact passAt tk σ pins H1 s1 er s' I1 hq
  | ok fl =>
    cases fl with
    | ret u => exact I1.after hq
    | next => exact False.elim hq
    | brk => exact False.elim hq
    | cont => exact False.elim hq
end TG


namespace TG
open PySem PySem.Spec PyProof.Rows L2 NdefX GenW Gx Lv
/-! ### cells told of, and what a lambda caught -/
theorem caught_of {cells : List (Str × Addr)} {N names fr : List Str} {σ : L2.St} {cl : List (Addr × Obj)} {F : NF} {ws : List (Option V)} {H : Hp} (T : ToldC cells N names σ cl) (hF : F.cl = cloFrom cells F.scope.names [])
    (hfr : ∀ y, (y, NameKind.free) ∈ F.scope.names → y ∈ fr) (hrf : ∀ y ∈ fr, (y, NameKind.free) ∈ F.scope.names) (hsub : ∀ y ∈ fr, y ∈ names) (len : ws.length = fr.length) (told : ∀ c o, cl.lookup c = some o → H c = some (cellF o))
    (hw : ∀ (i : Nat) (y : Str) (v : V), fr[i]? = some y → ws[i]? = some (some v) → ∃ j : Nat, N[j]? = some y ∧ σ[j]? = some (some v)) : Caught F fr ws cl H := by
  have at_ : ∀ y c, F.cl.lookup y = some c → y ∈ fr ∧ ∃ o v, cells.lookup y = some c ∧ cl.lookup c = some o ∧ o.data = .cell v := fun y c e => by
    rw [hF] at e
    rcases cloFrom_mem (PySem.mem_of_lookup e) with z | ⟨z, hc⟩
    · cases z
    · have hy := hfr y z
      obtain ⟨c', o, v, e1, e2, e3⟩ := T.all y (hsub y hy)
      rw [e1] at hc
      have hc : c = c' := hc
      subst hc
      exact ⟨hy, o, v, e1, e2, e3⟩
  refine ⟨len, told, fun y c e => ?_, fun x y c e1 e2 => ?_, fun i y e => ?_⟩
  · obtain ⟨_, o, v, _, h2, h3⟩ := at_ y c e
    exact ⟨o, v, h2, h3⟩
  · obtain ⟨_, _, _, h1, _⟩ := at_ x c e1
    obtain ⟨_, _, _, h2, _⟩ := at_ y c e2
    exact T.inj x y c h1 h2
  · have hy : y ∈ fr := List.mem_of_getElem? e
    have hm := cloFrom_has (cells := cells) (acc := []) (hrf y hy)
    have hs : ∃ c, F.cl.lookup y = some c := by
      rw [hF]
      cases q : (cloFrom cells F.scope.names []).lookup y with
      | some c => exact ⟨c, rfl⟩
      | none =>
        have := List.lookup_eq_none_iff.mp q _ hm
        simp at this
    obtain ⟨c, hc⟩ := hs
    obtain ⟨_, o, v0, h1, h2, h3⟩ := at_ y c hc
    refine ⟨c, hc, fun v hv => ?_⟩
    obtain ⟨j, hj1, hj2⟩ := hw i y v e hv
    obtain ⟨u, e1, e2⟩ := T.val y (hsub y hy) c o h1 h2 j v hj1 hj2
    exact ⟨o, u, h2, e1, e2⟩
section
variable {cs : List (Addr × Addr)} {H H' : Hp} {cl : List (Addr × Obj)}
theorem add_at (un : ∀ c o, cl.lookup c = some o → H c = none) {b : Addr} {o : HO} (h : H b = some o) : addC H cl b = some o := by
  cases r : cl.lookup b with
  | some u => rw [un b u r] at h; cases h
  | none => rw [addC_out r]; exact h
theorem del_at (un : ∀ c o, cl.lookup c = some o → H c = none) {b : Addr} {o : HO} (h : H b = some o) : cl.lookup b = none := by
  cases r : cl.lookup b with
  | some u => rw [un b u r] at h; cases h
  | none => rfl
theorem add_none {D : Addr} (h : addC H cl D = none) : cl.lookup D = none ∧ H D = none := by
  cases r : cl.lookup D with
  | some u => rw [addC_in r] at h; cases h
  | none => rw [addC_out r] at h; exact ⟨rfl, h⟩
theorem del_upd_add (un : ∀ c o, cl.lookup c = some o → H c = none) {D : Addr} {o : HO} (hD : cl.lookup D = none) : delC (upd (addC H cl) D o) cl = upd H D o := by
  funext b
  cases r : cl.lookup b with
  | some u =>
    rw [delC_in r, upd_ne (fun z => by rw [z, hD] at r; cases r)]
    exact (un b u r).symm
  | none =>
    rw [delC_out r]
    by_cases hb : b = D
    · rw [hb, upd_same, upd_same]
    · rw [upd_ne hb, upd_ne hb, addC_out r]
theorem tabs_add (un : ∀ c o, cl.lookup c = some o → H c = none) (t : Tabs cs H) : Tabs cs (addC H cl) := fun p hp => by
  obtain ⟨ps, h1, h2⟩ := t p hp
  exact ⟨ps, add_at un h1, h2⟩
/-- what came of a heap with the cells told, the cells untold again -/
theorem ex_del (un : ∀ c o, cl.lookup c = some o → H c = none) (told : ∀ c o, cl.lookup c = some o → H' c = some (cellF o)) (x : Ex cs (addC H cl) H') : Ex cs H (delC H' cl) := by
  refine ⟨fun b o h n => ?_, fun p hp => ?_, fun b h => ?_, fun b o h n => ?_⟩
  · rw [delC_out (del_at un h)]
    exact x.ext b o (add_at un h) n
  · obtain ⟨ps, h1, h2⟩ := x.tab p hp
    have r : cl.lookup p.2 = none := by
      cases r : cl.lookup p.2 with
      | none => rfl
      | some u => rw [told _ u r] at h1; cases h1
    exact ⟨ps, by rw [delC_out r]; exact h1, h2⟩
  · cases r : cl.lookup b with
    | some u => exact un b u r
    | none =>
      rw [delC_out r] at h
      exact (add_none (x.old b h)).2
  · rw [delC_out (del_at un h)]
    exact x.oth b o (add_at un h) n
end
end TG


namespace Dl
open PySem PySem.Spec PyProof.Rows L2 NdefX GenW Lv
/-! Lambdas of one parameter, whose default is a whole number, and that capture cells. -/
/-- the function's data, its defaults in a tuple -/
def fnD (name qual : Str) (params : Arguments) (body : Expr) (scope : Scope) (cl : List (Str × Addr)) (pm cdv ct : Value) (dV : Value) : FuncData :=
  { name := name, qualname := qual, params := params, body := .expr body, scope := scope, globals := mainGlobals, closure := cl, defaults := dV, kwdefaults := .none, pyModule := pm, code := cdv, closureTuple := ct, builtins := builtinsNs }
def objD (name qual : Str) (params : Arguments) (body : Expr) (scope : Scope) (cl : List (Str × Addr)) (pm : Value) (c' : Addr) (ct : Value) (dV : Value) : Obj := { cls := .type "function", data := .func (fnD name qual params body scope cl pm (.ref c') ct dV) }
theorem makeTail {M : Model} {A : Around} {E : Value → Shared → Prop} {s : Shared} {name qual : Str} {params : Arguments} {body : Expr} {scope : Scope} {env : Env} {c P : Addr} {ps : Array Value} {pos : Pos} {firstLine : Nat} {mg : Str → Option Value} {q : Str × Addr} {r : List (Str × Addr)} {dV : Value} {Q : Value → Shared → Prop}
    (hcl : closureFor scope env = pure (q :: r)) (hge0 : env.globals = mainGlobals) (hg : s.heap.Ns mainGlobals mg) (hcode : env.code = .ref c) (C : PySem.W.CodeHd s.heap c P) (hP : s.heap.get? P = some (PySem.W.tabObj ps)) (ht : TriplesOk ps.toList) (hnf : codeAmong pos ps.toList = none)
    (hgP : mainGlobals ≠ P) (hb : s.heap.BuiltinsAt mg P)
    (h : ∀ (c' : Nat) (ctv : Value) (h' : Heap) (tk : Nat), Heap.ExtBut P s.heap h' → s.heap.objs.size ≤ c' → c' < h'.objs.size → h'.CodeRec (.ref c') qual → h'.get? P = some (PySem.W.tabObj (ps ++ #[rawInt pos.line, rawInt pos.col, .ref c'])) →
      Q (.ref h'.objs.size) { heap := h'.push (objD name qual params body scope (q :: r) ((mg "__name__").getD .none) c' ctv dV), gens := s.gens, drawn := s.drawn, toks := tk, os := s.os }) :
    wpAny M A (PySem.makeTail name qual params (.expr body) scope env dV .none none pos firstLine) Q E s := by
  obtain ⟨bm, ob, hbm, hne0, hl, hneP, hbo, hcls, hdict, hdata⟩ := hb
  unfold PySem.makeTail
  rw [hcl, hge0]
  refine wpAny_bind (wpAny_pure ?_)
  rw [if_neg (by simp)]
  refine wpAny_bind (wpAny_newTextTuple ?_)
  refine wpAny_bind (wpAny_functionCodeX hcode (PySem.W.CodeHd.code (C.keeps fun b o e => Heap.get?_push_of_some _ e) (Heap.get?_push_of_some _ hP) ht) (PySem.W.CodeHd.tab (C.keeps fun b o e => Heap.get?_push_of_some _ e) (Heap.get?_push_of_some _ hP)) hnf fun c' h' tk hx hge hlt x hrec htb x_1 => ?_)
  have hg' := Heap.Ns.extBut (Heap.Ns.push hg _) hx hgP
  have hx' : Heap.ExtBut P s.heap h' := fun b o hb' e => hx b o hb' (Heap.get?_push_of_some _ e)
  have hge' : s.heap.objs.size ≤ c' := by
    have hge2 : s.heap.objs.size + 1 ≤ c' := by
      have := hge
      rw [Heap.size_push] at this
      exact this
    omega
  refine wpAny_bind (wpAny_builtinsFor hg' hbm hne0 (hx' bm ob hneP hbo) hcls hdict hdata (wpAny_bind (wpAny_nsGet hg' (wpAny_bind (wpAny_pure (wpAny_newObj_type (h c' _ h' tk hx' hge' hlt hrec htb.2) ?_))))))
  simp [sizeOk]
theorem makeTailHit {M : Model} {A : Around} {E : Value → Shared → Prop} {s : Shared} {name qual : Str} {params : Arguments} {body : Expr} {scope : Scope} {env : Env} {c P c' : Addr} {ps : Array Value} {pos : Pos} {firstLine : Nat} {mg : Str → Option Value} {q : Str × Addr} {r : List (Str × Addr)} {dV : Value} {Q : Value → Shared → Prop}
    (hcl : closureFor scope env = pure (q :: r)) (hge0 : env.globals = mainGlobals) (hg : s.heap.Ns mainGlobals mg) (hcode : env.code = .ref c) (C : PySem.W.CodeHd s.heap c P) (hP : s.heap.get? P = some (PySem.W.tabObj ps)) (ht : TriplesOk ps.toList) (hh : codeAmong pos ps.toList = some (.ref c'))
    (hb : s.heap.BuiltinsAt mg P)
    (h : ∀ (ctv : Value) (h' : Heap) (tk : Nat), (∀ (b : Addr) (o : Obj), s.heap.get? b = some o → h'.get? b = some o) → s.heap.objs.size ≤ h'.objs.size →
      Q (.ref h'.objs.size) { heap := h'.push (objD name qual params body scope (q :: r) ((mg "__name__").getD .none) c' ctv dV), gens := s.gens, drawn := s.drawn, toks := tk, os := s.os }) :
    wpAny M A (PySem.makeTail name qual params (.expr body) scope env dV .none none pos firstLine) Q E s := by
  obtain ⟨bm, ob, hbm, hne0, hl, hneP, hbo, hcls, hdict, hdata⟩ := hb
  unfold PySem.makeTail
  rw [hcl, hge0]
  refine wpAny_bind (wpAny_pure ?_)
  rw [if_neg (by simp)]
  refine wpAny_bind (wpAny_newTextTuple ?_)
  refine wpAny_bind (wpAny_functionCode_hit hcode (PySem.W.CodeHd.code (C.keeps fun b o e => Heap.get?_push_of_some _ e) (Heap.get?_push_of_some _ hP) ht) hh ?_)
  have hg' := Heap.Ns.push hg { cls := Value.type "tuple", data := Data.seq (List.map (fun x => Value.ref x.snd) ((q :: r).mergeSort fun a b => decide (a.fst.cps.toList ≤ b.fst.cps.toList))).toArray }
  refine wpAny_bind (wpAny_builtinsFor hg' hbm hne0 (Heap.get?_push_of_some _ hbo) hcls hdict hdata (wpAny_bind (wpAny_nsGet hg' (wpAny_bind (wpAny_pure (wpAny_newObj_type (h _ _ _ (fun b o e => Heap.get?_push_of_some _ e) (by rw [Heap.size_push]; exact Nat.le_succ _)) ?_))))))
  simp [sizeOk]
/-- the object at f is the lambda F of the body e, its defaults at t -/
def FnD (f : Addr) (F : NF) (e : Expr) (t : Addr) : HO := .ext fun h => ∃ (od : Option Addr) (sl : Array (Option Value)) (pm ctv : Value), h.get? f = some (⟨.type "function", od, .func (fnD F.name F.qual F.params e F.scope F.cl pm (.ref F.c) ctv (.ref t)), sl⟩ : Obj)
theorem fnD_at {P : Program} {w : World} {H : Hp} {h : Heap} {f : Addr} {F : NF} {e : Expr} {t : Addr} (hok : HOk P w H h) (q : H f = some (FnD f F e t)) : ∃ (od : Option Addr) (sl : Array (Option Value)) (pm ctv : Value), h.get? f = some (⟨.type "function", od, .func (fnD F.name F.qual F.params e F.scope F.cl pm (.ref F.c) ctv (.ref t)), sl⟩ : Obj) := by
  have z := hok f _ q
  obtain ⟨z, _, _⟩ := z
  exact z
theorem fnD_ne {f : Addr} {F : NF} {e : Expr} {t : Addr} (ps : Array Value) : FnD f F e t ≠ .tbl ps := fun z => by
  unfold FnD at z
  cases z
section
variable {X : Cx} {pins : List (Addr × Obj)} {σ : L2.St} {H : Hp} {s : Shared}
theorem inv_lamD {F : NF} {e : Expr} {t : Addr} {tk : Nat} {pm ctv : Value} (I : Inv X pins σ H s) :
    Inv X pins σ (upd H s.heap.objs.size (FnD s.heap.objs.size F e t)) { s with heap := s.heap.push (objD F.name F.qual F.params e F.scope F.cl pm F.c ctv (.ref t)), toks := tk } := by
  refine I.laid (a := s.heap.objs.size) (fun b u q => Heap.get?_push_of_some _ q) (Nat.le_refl _) ?_
  have q : (s.heap.push (objD F.name F.qual F.params e F.scope F.cl pm F.c ctv (.ref t))).get? s.heap.objs.size = some (objD F.name F.qual F.params e F.scope F.cl pm F.c ctv (.ref t)) := Heap.get?_push_size _ rfl
  exact ⟨⟨_, _, pm, ctv, q⟩, ⟨_, q⟩, fun h1 h2 ⟨od, sl, p, t, z⟩ st => ⟨od, sl, p, t, st _ z⟩⟩
theorem inv_tup0 {v : V} {u : Value} (I : Inv X pins σ H s) (r : RelV v u) :
    Inv X pins σ (upd H s.heap.objs.size (.tup [v])) { s with heap := s.heap.push { cls := Value.type "tuple", data := Data.seq [u].toArray } } :=
  I.laid (t' := s.toks) (fun b u e => Heap.get?_push_of_some _ e) (Nat.le_refl _) ⟨by show 1 ≤ sizeLine; decide, [u], .cons r .nil, _, Heap.get?_push_size s.heap rfl, rfl, 0, rfl⟩
/-- a lambda with one default is made -/
theorem lam_valD {c P : Addr} {params : Arguments} {body d : Expr} {scope : Scope} {pos : Pos} {Q : Value → Shared → Prop} {q0 : Str × Addr} {r0 : List (Str × Addr)} {v : V} (I : Inv X pins σ H s) (B : LamX.TabB X.base X.mg c P) (hcode : X.env.code = .ref c)
    (hT : LamX.TabS H P (X.env.qual ++ "<lambda>")) (hdef : params.defaults = [d]) (hkw : params.kw_defaults = []) (hko : params.kwonlyargs = []) (hd : PE X d (tC v)) (hfree : ∀ y ∈ scope.names, y.2 = .free → ∃ c, X.env.cells.lookup y.1 = some c) (hclo : cloFrom X.env.cells scope.names [] = q0 :: r0)
    (k : ∀ (f c' t : Addr) (H1 : Hp) (s' : Shared), Inv X pins σ H1 s' → (∀ b o, H b = some o → b ≠ P → H1 b = some o) → (∀ b, H1 b = none → H b = none) → LamX.TabS H1 P (X.env.qual ++ "<lambda>") → H f = none →
      H1 f = some (FnD f ⟨"<lambda>", X.env.qual ++ "<lambda>", params, [], scope, cloFrom X.env.cells scope.names [], c'⟩ body t) → H1 c' = some (LamX.CodeO c' (X.env.qual ++ "<lambda>")) → H1 t = some (.tup [v]) → Q (.ref f) s') :
    wpAny (model X.prog X.w) X.A (eval (.Lambda params body scope pos) X.env) Q X.xe s := by
  refine PySem.W.kdv_lam (by rw [hdef]; rfl) hkw ?_
  rw [hdef]
  show wpAny _ _ (evalAll (eval d X.env :: [])) _ _ _
  refine evalAll_cons (thn (hd.run pins s σ H (fun x H1 => x = v ∧ H1 = H) I ⟨rfl, rfl⟩) fun u s1 ⟨x, H1, I1, ru, ex, eH⟩ => ?_)
  subst ex
  subst eH
  refine wpAny_pure ?_
  rw [makeFunction_eq]
  simp only [List.isEmpty_cons, hko, List.zip_nil_left, List.filterMap_nil, List.isEmpty_nil, if_true, Bool.false_eq_true, if_false]
  refine wpAny_bind (wpAny_newTextTuple ?_)
  refine wpAny_bind (wpAny_pure ?_)
  refine wpAny_bind (wpAny_pure ?_)
  have I2 := inv_tup0 I1 ru
  have nt := I1.hok.fresh (Nat.le_refl s1.heap.objs.size)
  have ht2 : upd H1 s1.heap.objs.size (.tup [x]) s1.heap.objs.size = some (.tup [x]) := upd_same
  have kp2 : ∀ b o, H1 b = some o → upd H1 s1.heap.objs.size (.tup [x]) b = some o := fun b o e => by rw [upd_ne (ne_of_none e nt)]; exact e
  have np2 : ∀ b, upd H1 s1.heap.objs.size (.tup [x]) b = none → H1 b = none := fun b e => by
    unfold upd at e
    split at e
    · cases e
    · exact e
  obtain ⟨ps, tP0, tok, tin0⟩ := hT
  have tP := kp2 _ _ tP0
  have tin : ∀ pos cv, codeAmong pos ps.toList = some cv → ∃ c0, cv = .ref c0 ∧ upd H1 s1.heap.objs.size (.tup [x]) c0 = some (LamX.CodeO c0 (X.env.qual ++ "<lambda>")) := fun pos cv e => by
    obtain ⟨c0, e1, e2⟩ := tin0 pos cv e
    exact ⟨c0, e1, kp2 _ _ e2⟩
  generalize upd H1 s1.heap.objs.size (.tup [x]) = H2 at I2 ht2 kp2 np2 tP tin ⊢
  generalize s1.heap.objs.size = t at ht2 ⊢
  generalize hs2 : ({ heap := s1.heap.push { cls := Value.type "tuple", data := Data.seq [u].toArray }, gens := s1.gens, drawn := s1.drawn, toks := s1.toks, os := s1.os } : Shared) = s2 at I2 ⊢
  have bP : s2.heap.BuiltinsAt X.mg P := B.bm.keeps I2.bk
  have gP : s2.heap.get? P = some { cls := .none, data := .fields ps } := I2.hok P _ tP
  have none3 : ∀ {G : Hp} {x y z : Addr} {o u v : HO} {b : Addr}, upd (upd (upd G x o) y u) z v b = none → G b = none := fun {G x y z o u v b} q => by
    have r1 := q
    unfold upd at r1
    split at r1
    · cases r1
    split at r1
    · cases r1
    split at r1
    · cases r1
    exact r1
  have hclf : closureFor scope X.env = pure (q0 :: r0) := by rw [← hclo]; exact closure_ok hfree
  cases hc : codeAmong pos ps.toList with
  | some cv =>
    obtain ⟨c', e, hco⟩ := tin pos cv hc
    subst e
    refine makeTailHit (mg := X.mg) (c := c) (P := P) (ps := ps) hclf I2.ok.glob (I2.mod.glob.keeps I2.bk) hcode (B.code.keeps I2.bk) gP tok hc bP fun ctv h' tk hx2 hsz => ?_
    have I3 : Inv X pins σ H2 { s2 with heap := h', toks := tk } := I2.kept hx2
    have nF : H2 h'.objs.size = none := I3.hok.fresh (Nat.le_refl _)
    have I4 := inv_lamD (F := ⟨"<lambda>", X.env.qual ++ "<lambda>", params, [], scope, cloFrom X.env.cells scope.names [], c'⟩) (e := body) (t := t) (tk := tk) (pm := (X.mg "__name__").getD .none) (ctv := ctv) I3
    rw [hclo] at I4
    refine k h'.objs.size c' t _ _ I4 (fun b o q _ => by rw [upd_ne (ne_of_none (kp2 _ _ q) nF)]; exact kp2 _ _ q) (fun b q => np2 b ?_) ⟨ps, by rw [upd_ne (ne_of_none tP nF)]; exact tP, tok, fun p' cv' q => ?_⟩ (np2 _ nF) (by rw [upd_same, hclo]) (by rw [upd_ne (ne_of_none hco nF)]; exact hco) (by rw [upd_ne (ne_of_none ht2 nF)]; exact ht2)
    · unfold upd at q
      split at q
      · cases q
      · exact q
    · obtain ⟨c0, e1, e2⟩ := tin p' cv' q
      exact ⟨c0, e1, by rw [upd_ne (ne_of_none e2 nF)]; exact e2⟩
  | none =>
    refine makeTail (mg := X.mg) (c := c) (P := P) (ps := ps) hclf I2.ok.glob (I2.mod.glob.keeps I2.bk) hcode (B.code.keeps I2.bk) gP tok hc B.gP bP fun c' ctv h' tk hx2 hge hlt hrec htb => ?_
    obtain ⟨c2, oc, vs, t2, e2, hoc, hd2, hv⟩ := hrec
    cases e2
    have nC : H2 c' = none := I2.hok.fresh hge
    have I3 := LamX.inv_table (t' := tk) (more := #[rawInt pos.line, rawInt pos.col, .ref c']) (h' := h') I2 tP (fun b o hb q => hx2 b o hb q) htb hge ⟨oc, vs, t2, hoc, hd2, hv⟩
    have nF := I3.hok.fresh (Nat.le_refl _)
    have I4 := inv_lamD (F := ⟨"<lambda>", X.env.qual ++ "<lambda>", params, [], scope, cloFrom X.env.cells scope.names [], c'⟩) (e := body) (t := t) (tk := tk) (pm := (X.mg "__name__").getD .none) (ctv := ctv) I3
    rw [hclo] at I4
    have fC : h'.objs.size ≠ c' := Nat.ne_of_gt hlt
    have pC : P ≠ c' := ne_of_none tP nC
    have nF0 : H2 h'.objs.size = none := I2.hok.fresh (Nat.le_trans hge (Nat.le_of_lt hlt))
    have pF : P ≠ h'.objs.size := ne_of_none tP nF0
    have eL : (ps ++ #[rawInt pos.line, rawInt pos.col, .ref c']).toList = ps.toList ++ [rawInt pos.line, rawInt pos.col, .ref c'] := by simp
    have kk : ∀ b o, H2 b = some o → b ≠ P → upd (upd (upd H2 P (.tbl (ps ++ #[rawInt pos.line, rawInt pos.col, .ref c']))) c' (LamX.CodeO c' (X.env.qual ++ "<lambda>"))) h'.objs.size (FnD h'.objs.size ⟨"<lambda>", X.env.qual ++ "<lambda>", params, [], scope, q0 :: r0, c'⟩ body t) b = some o := fun b o q hb => by
      rw [upd_ne (ne_of_none q nF0), upd_ne (ne_of_none q nC), upd_ne hb]
      exact q
    refine k h'.objs.size c' t _ _ I4 (fun b o q hb => kk b o (kp2 _ _ q) hb) (fun b q => np2 b (none3 q)) ⟨_, by rw [upd_ne pF, upd_ne pC, upd_same], by rw [eL]; exact PySem.TriplesOk_snoc _ _ _ _ tok, fun p' cv q => ?_⟩ (np2 _ nF0) (by rw [upd_same, hclo]) (by rw [upd_ne fC.symm, upd_same]) (kk t _ ht2 fun e => by rw [e, tP] at ht2; cases ht2)
    rw [eL] at q
    rcases LamX.among_app _ tok q with z | z
    · obtain ⟨c0, e1, e2⟩ := tin p' cv z
      exact ⟨c0, e1, kk _ _ e2 (fun y => by rw [y, tP] at e2; exact LamX.codeO_ne ps (Option.some.inj e2).symm)⟩
    · exact ⟨c', z, by rw [upd_ne fC.symm, upd_same]⟩
end
end Dl


namespace Dl
open PySem PySem.Spec PyProof.Rows L2 NdefX GenW Lv
theorem bind1 {M : Model} {A : Around} {E : Value → Shared → Prop} {s : Shared} {name qual nm : Str} {params : Arguments} {body : Expr} {scope : Scope} {cl : List (Str × Addr)} {pm cdv ct u : Value} {t : Addr} {o : Obj} {n : Nat} {Q : List (Str × Value) → Shared → Prop}
    (hp : params.posonlyargs = []) (ha : params.args.map (·.arg) = [nm]) (hk : params.kwonlyargs = []) (hv : params.vararg = none) (hkw : params.kwarg = none) (ho : s.heap.get? t = some o) (hd : o.data = .seq #[u] n) (h : Q [(nm, u)] s) :
    wpAny M A (bindArgs (fnD name qual params body scope cl pm cdv ct (.ref t)) ⟨[], []⟩) Q E s := by
  unfold bindArgs
  simp only [fnD, hp, ha, hk, hv, hkw, List.map_nil, List.nil_append, List.zip_nil_right, List.forIn_nil]
  refine wpAny_bind (wpAny_pure ?_)
  refine wpAny_bind (wpAny_seqItems ho hd ?_)
  simp
  exact wpAny_pure h
end Dl

namespace TG
open PySem PySem.Spec PyProof.Rows L2 NdefX GenW Gx Lv Dl
/-! ### works: lambdas that are called without anything, with or without a default -/
structure LamW (P : Program) (w : World) (K : PySem.W.Frag) (mg : Str → Option Value) (base : Heap) (k : Nat) (f : Addr) (Hf : Hp → Prop) (sp : Sp) : Prop where
  at_ : ∀ {H : Hp} {h : Heap}, HOk P w H h → Hf H → PySem.W.FnAt f h
  run : ∀ (A : Around) (outer : List Env) (s : Shared) (H : Hp) (Q : VK) (E : XK), Room k A → Env0 P w K mg base A outer s H → Hf H → sp [] H Q E →
    codeAny (model P w) A (.call (.ref f) ⟨[], []⟩) (CR (L2.CX P w) outer P w H s Q E) s
/-- a lambda without parameters stands -/
def HfL (f : Addr) (F : NF) (e : Expr) (H : Hp) : Prop := H f = some (FnL f F e) ∧ H F.c = some (LamX.CodeO F.c F.qual)
/-- one with a default -/
def HfD (f : Addr) (F : NF) (e : Expr) (t : Addr) (v : V) (H : Hp) : Prop := H f = some (FnD f F e t) ∧ H F.c = some (LamX.CodeO F.c F.qual) ∧ H t = some (.tup [v])
theorem HfL.ex {cs : List (Addr × Addr)} {f : Addr} {F : NF} {e : Expr} {H H' : Hp} (h : HfL f F e H) (x : Ex cs H H') : HfL f F e H' :=
  ⟨x.ext _ _ h.1 fun ps => fnL_ne ps, x.ext _ _ h.2 fun ps => LamX.codeO_ne ps⟩
theorem HfD.ex {cs : List (Addr × Addr)} {f : Addr} {F : NF} {e : Expr} {t : Addr} {v : V} {H H' : Hp} (h : HfD f F e t v H) (x : Ex cs H H') : HfD f F e t v H' :=
  ⟨x.ext _ _ h.1 fun ps => fnD_ne ps, x.ext _ _ h.2.1 fun ps => LamX.codeO_ne ps, x.tup h.2.2⟩
section
variable {P : Program} {w : World} {K : PySem.W.Frag} {mg : Str → Option Value} {base : Heap}
theorem lamw_l {k : Nat} {f : Addr} {F : NF} {e : Expr} {sp : Sp} (L : LOkX P w K mg base k f F e sp) : LamW P w K mg base k f (HfL f F e) sp :=
  ⟨fun {H h} hok q => by
    obtain ⟨od, sl, pm, ctv, ho⟩ := fnL_at hok q.1
    exact ⟨_, od, _, sl, ho⟩, fun A outer s H Q E hr e0 h hsp => L.run A outer s H Q E hr e0 h.1 h.2 hsp⟩
theorem lamw_d {k : Nat} {f t : Addr} {F : NF} {e : Expr} {N fr : List Str} {nm : Str} {v : V} {sp : Sp} (S : NScope N [nm] fr F.scope) (hp : F.params.posonlyargs = []) (ha : F.params.args.map (·.arg) = [nm]) (hk : F.params.kwonlyargs = []) (hv : F.params.vararg = none) (hkw : F.params.kwarg = none) (hloc : F.scope.names.lookup nm = some .local)
    (hbody : ∀ (A : Around) (outer : List Env) (s : Shared) (H : Hp) (Q : VK) (E : XK), Room k (A.deeper (envF F f s.heap.objs.size)) → sp [] H Q E → ∃ (ws : List (Option V)) (cl : List (Addr × Obj)) (t : TE), Caught F fr ws cl H ∧
      PE (ncx (L2.CX P w) P w K mg base N F f A outer s (delC H cl) (fun cls d H' => (∀ c o, cl.lookup c = some o → H' c = none) → E cls d (addC H' cl))) e t ∧ t (startF N [v] ws) (delC H cl) (fun v H' => (∀ c o, cl.lookup c = some o → H' c = none) → Q v (addC H' cl))) :
    LamW P w K mg base (k + 1) f (HfD f F e t v) sp := by
  refine ⟨fun {H h} hok q => ?_, fun A outer s H Q E hr e0 hfd hsp => ?_⟩
  · obtain ⟨od, sl, pm, ctv, ho⟩ := fnD_at hok q.1
    exact ⟨_, od, _, sl, ho⟩
  obtain ⟨hf, hc, ht0⟩ := hfd
  have lim : s.heap.NoLimit := e0.mod.nolimit.keeps fun b o q => (e0.bs b o q).1
  obtain ⟨od, sl, pm, ctv, ho⟩ := fnD_at e0.hok hf
  obtain ⟨ws, cl, tm, C, ht, hq⟩ := hbody A outer s H Q E (hr.deeper _) hsp
  obtain ⟨_, us, rv, ot, hot, hoc, n, hod⟩ := e0.hok t _ ht0
  obtain ⟨u, rfl, ru⟩ : ∃ u, us = [u] ∧ RelV v u := by
    cases rv with
    | cons r rest => cases rest; exact ⟨_, rfl, r⟩
  have hnf : ∀ c o, cl.lookup c = some o → c ∉ frs outer := fun c o q hb => by
    have z := e0.frf c hb
    rw [C.told c o q] at z
    cases z
  have at0 : ∀ c o, cl.lookup c = some o → s.heap.get? c = some o := fun c o q => (e0.hok c _ (C.told c o q)).1
  refine codeAny_mono (R := CR (L2.CX P w) outer P w (delC H cl) s (fun v H' => (∀ c o, cl.lookup c = some o → H' c = none) → Q v (addC H' cl)) (fun cls d H' => (∀ c o, cl.lookup c = some o → H' c = none) → E cls d (addC H' cl))) ?_ fun r s' q => ?_
  · have e1 := env_del e0 C.told
    refine PySem.W.kla_callFunE hr.depth ho rfl S.co S.gen rfl (codeO_at e0.hok hc) ?_
    refine bind1 hp ha hk hv hkw hot hod ?_
    refine wpAny_newFunctionEnv S.nocell (fun ⟨n, _⟩ hy => by rw [List.mem_singleton] at hy; injection hy with h1 _; rw [h1]; exact hloc) (fun h₁ hns hsb => ⟨lim.fresh _ hsb, ?_⟩) S.kind
    have kp : ∀ b o, s.heap.get? b = some o → h₁.get? b = some o := fun b o q => hsb.extBut b o (Nat.ne_of_lt (Heap.lt_size q)) (Heap.get?_push_of_some _ q)
    have CA : NdefX.CellsAt F.cl fr ws s.heap (delC H cl) := by
      refine ⟨C.len, fun y c q => ?_, C.inj, fun i y q => ?_⟩
      · obtain ⟨o, v, h1, h2⟩ := C.all y c q
        exact ⟨delC_in h1, v, o, at0 c o h1, h2⟩
      · obtain ⟨c, h1, h2⟩ := C.has i y q
        refine ⟨c, h1, fun v hv => ?_⟩
        obtain ⟨o, u, h3, h4, h5⟩ := h2 v hv
        exact ⟨u, h5, o, at0 c o h3, h4⟩
    have I := inv_startN (CX := L2.CX P w) (P := P) (w := w) (E := fun cls d H' => (∀ c o, cl.lookup c = some o → H' c = none) → E cls d (addC H' cl)) (f := f) (tk := s.toks + (([nm] : List Str).zip ([u] : List Value)).length) S hr.hd e1 (vs := [v]) (us := [u]) rfl (.cons ru .nil) CA hns kp
    refine PySem.W.kla_codeExpr (wpAny_mono (ht.run [] _ (startF N [v] ws) (delC H cl) _ I hq) (fun v s' q => ?_) fun e' s' q => q)
    obtain ⟨w', H', J, rv, q⟩ := q
    exact ⟨w', H', J.os, J.bare, J.base, J.hok, rv, q⟩
  · cases r with
    | error er => exact cx_add e0.hok (fun c o q => ⟨C.told c o q, hnf c o q⟩) q
    | ok fl =>
      cases fl with
      | ret u => exact ce_add e0.hok (fun c o q => ⟨C.told c o q, hnf c o q⟩) q
      | next => exact False.elim q
      | brk => exact False.elim q
      | cont => exact False.elim q
end
/-! ### a call of such a work by a local's name, in a try -/
def tCallW (P : Program) (w : World) (K : PySem.W.Frag) (mg : Str → Option Value) (base : Heap) (k i : Nat) (W : WX) : TE := fun σ H Q => ∃ (f : Addr) (Hf : Hp → Prop) (sp : Sp), σ[i]? = some (some (.ref f)) ∧ Hf H ∧ LamW P w K mg base k f Hf sp ∧ sp [] H Q (WE W σ)
theorem pe_callW {X : Cx} {W : WX} {i k : Nat} {x : Str} {p pos : Pos} {P : Program} {w : World} {K : PySem.W.Frag} {mg : Str → Option Value} {base : Heap} (eX : X.prog = P ∧ X.w = w ∧ X.K = K ∧ X.mg = mg ∧ X.base = base) (hr : Room k X.A) (tk : Takes X W) (hN : X.N[i]? = some x) (hv : Vis X.env.scope x) (hd : (x == ("__debug__" : Str)) = false := by decide) (hcd : (x == ("__classdict__" : Str)) = false := by decide) :
    PE X (.Call (.Name x p) [] [] pos) (tCallW P w K mg base k i W) := by
  obtain ⟨rfl, rfl, rfl, rfl, rfl⟩ := eX
  refine ⟨fun pins s σ H Q I h => ?_⟩
  obtain ⟨f, Hf, sp, hs, hf, L, q⟩ := h
  refine wpAny_Call_Name_kw (thn ((pe_var (pos := p) hN hv hd hcd).run pins s σ H (fun v H1 => v = .ref f ∧ H1 = H) I ⟨.ref f, hs, rfl, rfl⟩) fun u s1 ⟨v, H1, I1, r1, q1⟩ => ?_)
  obtain ⟨ev, eH⟩ := q1
  subst ev eH
  obtain rfl : u = Value.ref f := r1
  have at_ := L.at_ I1.hok hf
  refine PySem.W.callWith_F0 (first := []) at_ ?_
  refine wpAny_call (codeAny_mono (L.run X.A X.stack s1 H1 Q (WE W σ) hr I1.env0 hf q) fun r' s' hq => ?_)
  cases r' with
  | error er => exact passAt tk σ pins H1 s1 er s' I1 hq
  | ok fl =>
    cases fl with
    | ret u => exact I1.after hq
    | next => exact False.elim hq
    | brk => exact False.elim hq
    | cont => exact False.elim hq
/-! ### such a lambda is made -/
def tLamD (P : Addr) (q : Str) (params : Arguments) (body : Expr) (scope : Scope) (cl : List (Str × Addr)) (v : V) : TE := fun _ H Q => LamX.TabS H P q ∧ ∀ (f c' t : Addr) (H1 : Hp), (∀ b o, H b = some o → b ≠ P → H1 b = some o) → (∀ b, H1 b = none → H b = none) → LamX.TabS H1 P q → H f = none →
  HfD f ⟨"<lambda>", q, params, [], scope, cl, c'⟩ body t v H1 → Q (.ref f) H1
theorem pe_lamD {X : Cx} {c P : Addr} {params : Arguments} {body d : Expr} {scope : Scope} {pos : Pos} {v : V} (B : LamX.TabB X.base X.mg c P) (hcode : X.env.code = .ref c) (hdef : params.defaults = [d]) (hkw : params.kw_defaults = []) (hko : params.kwonlyargs = []) (hd : PE X d (tC v))
    (hfr : ∀ y ∈ scope.names, y.2 = .free → X.env.kindOf y.1 = some .cell ∨ X.env.kindOf y.1 = some .free) (hne : ∃ y ∈ scope.names, y.2 = .free) :
    PE X (.Lambda params body scope pos) (tLamD P (X.env.qual ++ "<lambda>") params body scope (cloFrom X.env.cells scope.names []) v) := by
  refine ⟨fun pins s σ H Q I h => ?_⟩
  obtain ⟨hT, h⟩ := h
  have hfree : ∀ y ∈ scope.names, y.2 = .free → ∃ c, X.env.cells.lookup y.1 = some c := fun y hy e => I.ok.has _ (hfr y hy e)
  obtain ⟨y, hy, ey⟩ := hne
  obtain ⟨cy, hcy⟩ := hfree y hy ey
  cases hq : cloFrom X.env.cells scope.names [] with
  | nil =>
    have hm := @cloFrom_has X.env.cells scope.names [] y.1 (by rw [← ey]; exact hy)
    rw [hq] at hm
    cases hm
  | cons q0 r0 =>
    rw [hq] at h
    exact lam_valD I B hcode hT hdef hkw hko hd hfree hq fun f c' t H1 s' J k1 k2 t1 nf hf hc ht => ⟨.ref f, H1, J, rfl, h f c' t H1 k1 k2 t1 nf ⟨by rw [← hq]; exact hf, hc, ht⟩⟩
end TG


namespace TG
open PySem PySem.Spec PyProof.Rows L2 NdefX GenW Gx Lv Dl
/-! ### the eleven classes, and what _law_told tells of them -/
structure Errs (K : PySem.W.Frag) (mg : Str → Option Value) : Prop where
  mg_ : ∀ j, j < 11 → mg (nmE j) = some (.ref (He.ga K (nmE j)))
  grow : mg "GrowError" = some (.ref (He.ga K "GrowError"))
  exc : ∀ j, j < 11 → ExcC K (He.ga K (nmE j))
  sub : ∀ j, j < 11 → PySem.W.exmOne K (.ref (He.ga K (nmE j))) (.ref (He.ga K "GrowError")) = some true
  val : ∀ j, j < 11 → PySem.W.kitOne K (.ref (He.ga K (nmE j))) (.type "ValueError") = some true
  kit : ∀ i j, i < 11 → j < 11 → PySem.W.kitOne K (.ref (He.ga K (nmE i))) (.ref (He.ga K (nmE j))) = some (decide (i = j))
  fld : ∀ j, j < 11 → flE j ≠ "" → PySem.W.findIn K (.ref (He.ga K (nmE j))) (flE j) = some none
  ve : mg "ValueError" = none
/-- the error of the j-th class, whose value, if it has one, is n -/
structure ErrAt (K : PySem.W.Frag) (H : Hp) (j : Nat) (n : Int) (cls : Value) (d : Option Addr) : Prop where
  lt : j < 11
  cls : cls = .ref (He.ga K (nmE j))
  yes : flE j ≠ "" → ∃ dd, d = some dd ∧ H dd = some (.xd [(flE j, .int n)])
  no : flE j = "" → n = 0 ∧ d = none
theorem ErrAt.xd {K : PySem.W.Frag} {H : Hp} {j : Nat} {n : Int} {cls : Value} {d : Option Addr} (e : ErrAt K H j n cls d) : XdAt H d := by
  by_cases h : flE j = ""
  · exact .inl (e.no h).2
  · obtain ⟨dd, h1, h2⟩ := e.yes h
    exact .inr ⟨dd, _, h1, h2⟩
theorem Ex.xd {cs : List (Addr × Addr)} {H H' : Hp} {a : Addr} {fs : List (Str × V)} (e : Ex cs H H') (h : H a = some (.xd fs)) : H' a = some (.xd fs) := e.ext _ _ h fun ps q => by cases q
theorem ErrAt.ex {cs : List (Addr × Addr)} {K : PySem.W.Frag} {H H' : Hp} {j : Nat} {n : Int} {cls : Value} {d : Option Addr} (e : ErrAt K H j n cls d) (x : Ex cs H H') : ErrAt K H' j n cls d :=
  ⟨e.lt, e.cls, fun h => let ⟨dd, h1, h2⟩ := e.yes h; ⟨dd, h1, Ex.xd x h2⟩, e.no⟩
def kindsR (j m : Nat) : List V := (List.range m).map fun i => V.bl (decide (j = i))
theorem word_in : ∀ j, j < 11 → inV (.str (nmE j)) [.str "BadPage", .str "BadText"] = decide (j = 0 ∨ j = 8) := by decide +kernel
theorem word_in2 : ∀ j, j < 11 → inV (.str (nmE j)) [.str "BadStep", .str "BadStroke"] = decide (j = 6 ∨ j = 7) := by decide +kernel
theorem word_eq : ∀ j, j < 11 → decide (nmE j = "BadLines") = decide (j = 5) := by decide +kernel
theorem word_fl : ∀ j, j < 11 → ¬ (j = 0 ∨ j = 8) → ¬ j = 5 → ¬ (j = 6 ∨ j = 7) → flE j = "" := by decide +kernel
theorem kinds_cnt : ∀ j, j < 11 → (kindsR j 11).countP (fun z => eqV z (.bl true)) = 1 := by decide +kernel
theorem kinds_flat : ∀ j, j < 11 → (kindsR j 11).all flatV = true := by decide +kernel
theorem kinds_at : ∀ j, j < 11 → (kindsR j 11)[j]? = some (.bl true) := by decide +kernel
theorem kinds_no : ∀ j, j < 11 → ∀ m, m < j → (kindsR j 11)[m]? = some (.bl false) := by decide +kernel
section
variable {P : Program} {w : World} {K : PySem.W.Frag} {mg : Str → Option Value} {base : Heap} {cs : List (Addr × Addr)}
/-- _law_told: what a work gives, or the word and the number of what it raised -/
def spTellsW (P : Program) (w : World) (K : PySem.W.Frag) (mg : Str → Option Value) (base : Heap) (cs : List (Addr × Addr)) (kl : Nat) : Sp := fun vs H Q _ => ∃ (f : Addr) (Hf : Hp → Prop) (sp : Sp),
  vs = [.ref f] ∧ Hf H ∧ LamW P w K mg base kl f Hf sp ∧
  ∀ (Z : VK) (E : XK), (∀ v H', Q v H' → Z v H') → (∀ (cls : Value) (d : Option Addr) (H1 : Hp) (j : Nat) (n : Int), ErrAt K H1 j n cls d → Tabs cs H1 → (∀ (T : Addr) (H2 : Hp), Ex cs H1 H2 → H1 T = none → H2 T = some (.tup [.str (nmE j), .int n]) → Q (.ref T) H2) → E cls d H1) → sp [] H Z E
abbrev nmTold : List Str := ["_law_work", "e", "_law_kinds", "_law_words", "_law_word"]
theorem sc_tells : FnScope nmTold ["_law_work"] (defScope s_told) := ⟨rfl, rfl, rfl, by decide +kernel, rfl, by decide +kernel, by decide +kernel⟩
theorem names_get (j : Nat) : ∀ {H : Hp} {Q : VK} {a : Addr}, j < 11 → H a = some (.lst (excNm.map V.str)) → Q (.str (nmE j)) H → ∃ (p : Addr) (items : List V) (i : Int) (v : V), V.ref a = .ref p ∧ V.int (j : Nat) = .int i ∧ SqL K H p items ∧ atI items i = some v ∧ Q v H := fun {H Q a} hj ha q =>
  ⟨a, _, _, _, rfl, rfl, SqL.of ha, atI_nat (v := .str (nmE j)) (by
    rw [List.getElem?_map]
    have : excNm[j]? = some (nmE j) := by
      have h2 : j < excNm.length := hj
      rw [List.getElem?_eq_getElem h2]
      simp [nmE, List.getD, List.getElem?_eq_getElem h2]
    rw [this]
    rfl), q⟩
theorem ok_tellsW {f : Addr} {fd : FuncData} {kl : Nat} (T : Txt mg) (Er : Errs K mg) (F : Fun K "_law_told" "_law_told" s_told f fd) : FnOk P w K mg base CX0 (kl + 1) f fd ["_law_work"] (spTellsW P w K mg base cs kl) := by
  refine F.ok sc_tells (fun vs H Q E h => ?_) (fun cdv A outer s H vs Q E hr h => ?_)
  · obtain ⟨f, Hf, sp, rfl, _⟩ := h
    rfl
  · obtain ⟨fl, Hf, sp, rfl, hf, L, k⟩ := h
    have nd := sc_tells.nd
    refine ⟨_, pss_one (ps_try_as (i := 1) rfl rfl nd rfl rfl ⟨rfl, by decide, .inl Er.grow⟩ takes0 (fun W pn xe tk _ => pss_one (ps_ret (pe_callW (P := P) (w := w) (K := K) (mg := mg) (base := base) (k := kl) (i := 0) ⟨rfl, rfl, rfl, rfl, rfl⟩ hr tk rfl (.inl rfl))))
      (fun a oe cls d pn hz hf => 
        pss_cons (ps_set (i := 2) nd rfl (.inl rfl) (pe_lst (pa_cons (pe_callB (call_isX hz hf) (by rfl) T.isin (by decide +kernel) (pa_cons (pv 1) (pa_cons (pe_glob (v := .ref (He.ga K (nmE 0))) rfl (Er.mg_ 0 (by decide)) rfl) pa_nil)))
            (pa_cons (pe_callB (call_isX hz hf) (by rfl) T.isin (by decide +kernel) (pa_cons (pv 1) (pa_cons (pe_glob (v := .ref (He.ga K (nmE 1))) rfl (Er.mg_ 1 (by decide)) rfl) pa_nil)))
            (pa_cons (pe_callB (call_isX hz hf) (by rfl) T.isin (by decide +kernel) (pa_cons (pv 1) (pa_cons (pe_glob (v := .ref (He.ga K (nmE 2))) rfl (Er.mg_ 2 (by decide)) rfl) pa_nil)))
            (pa_cons (pe_callB (call_isX hz hf) (by rfl) T.isin (by decide +kernel) (pa_cons (pv 1) (pa_cons (pe_glob (v := .ref (He.ga K (nmE 3))) rfl (Er.mg_ 3 (by decide)) rfl) pa_nil))) pa_nil))))))
        (pss_cons (ps_set (i := 2) nd rfl (.inl rfl) (pe_op op_cat (pv 2) (pe_lst (pa_cons (pe_callB (call_isX hz hf) (by rfl) T.isin (by decide +kernel) (pa_cons (pv 1) (pa_cons (pe_glob (v := .ref (He.ga K (nmE 4))) rfl (Er.mg_ 4 (by decide)) rfl) pa_nil)))
            (pa_cons (pe_callB (call_isX hz hf) (by rfl) T.isin (by decide +kernel) (pa_cons (pv 1) (pa_cons (pe_glob (v := .ref (He.ga K (nmE 5))) rfl (Er.mg_ 5 (by decide)) rfl) pa_nil)))
            (pa_cons (pe_callB (call_isX hz hf) (by rfl) T.isin (by decide +kernel) (pa_cons (pv 1) (pa_cons (pe_glob (v := .ref (He.ga K (nmE 6))) rfl (Er.mg_ 6 (by decide)) rfl) pa_nil))) pa_nil))))))
        (pss_cons (ps_set (i := 2) nd rfl (.inl rfl) (pe_op op_cat (pv 2) (pe_lst (pa_cons (pe_callB (call_isX hz hf) (by rfl) T.isin (by decide +kernel) (pa_cons (pv 1) (pa_cons (pe_glob (v := .ref (He.ga K (nmE 7))) rfl (Er.mg_ 7 (by decide)) rfl) pa_nil)))
            (pa_cons (pe_callB (call_isX hz hf) (by rfl) T.isin (by decide +kernel) (pa_cons (pv 1) (pa_cons (pe_glob (v := .ref (He.ga K (nmE 8))) rfl (Er.mg_ 8 (by decide)) rfl) pa_nil)))
            (pa_cons (pe_callB (call_isX hz hf) (by rfl) T.isin (by decide +kernel) (pa_cons (pv 1) (pa_cons (pe_glob (v := .ref (He.ga K (nmE 9))) rfl (Er.mg_ 9 (by decide)) rfl) pa_nil))) pa_nil))))))
        (pss_cons (ps_expr (pe_bmU PySem.F.plainAttrs_list PySem.F.slot_list_append PySem.F.type_list_append mt_append (pv 2) (pa_cons (pe_callB (call_isX hz hf) (by rfl) T.isin (by decide +kernel) (pa_cons (pv 1) (pa_cons (pe_glob (v := .ref (He.ga K (nmE 10))) rfl (Er.mg_ 10 (by decide)) rfl) pa_nil))) pa_nil)))
        (pss_cons (ps_if (PW.pt (pw_or (pt_cmpR op_ne (pe_bmU PySem.F.plainAttrs_list PySem.F.slot_list_count PySem.F.type_list_count mt_cntU (pv 2) (pa_cons pe_bl pa_nil)) pe_int (nomark _))
            (pw_or1 (pt_not (pt_val (pe_callB (call_isX hz hf) (by rfl) T.isin (by decide +kernel) (pa_cons (pv 1) (pa_cons (pe_bltn (v := .ty "ValueError") (by rfl) Er.ve (by decide +kernel) rfl) pa_nil)))))))) (pss_one (ps_ret (pe_tup (pa_cons pe_str (pa_cons pe_int pa_nil))))) pss_nil)
        (pss_cons (ps_set (i := 3) nd rfl (.inl rfl) (pe_lst (pa_cons pe_str (pa_cons pe_str (pa_cons pe_str (pa_cons pe_str (pa_cons pe_str (pa_cons pe_str (pa_cons pe_str (pa_cons pe_str (pa_cons pe_str pa_nil)))))))))))
        (pss_cons (ps_set (i := 4) nd rfl (.inl rfl) (pe_ix ix_listU (pe_op op_cat (pv 3) (pe_lst (pa_cons pe_str (pa_cons pe_str pa_nil)))) (pe_bmU PySem.F.plainAttrs_list PySem.F.slot_list_index PySem.F.type_list_index mt_indexU (pv 2) (pa_cons pe_bl pa_nil)) (fun _ _ => rfl)))
        (pss_cons (ps_if (pt_cmpR op_inU (pv 4) (pe_tup (pa_cons pe_str (pa_cons pe_str pa_nil))) (by with_unfolding_all rfl)) (pss_one (ps_ret (pe_tup (pa_cons (pv 4) (pa_cons (pe_xfX hz hf (pv 1)) pa_nil))))) pss_nil)
        (pss_cons (ps_if (pt_cmpR op_eq (pv 4) pe_str (nomark _)) (pss_one (ps_ret (pe_tup (pa_cons (pv 4) (pa_cons (pe_xfX hz hf (pv 1)) pa_nil))))) pss_nil)
        (pss_one (ps_ret (pe_tup (pa_cons (pv 4) (pa_cons (pe_ifExp (pt_cmpR op_inU (pv 4) (pe_tup (pa_cons pe_str (pa_cons pe_str pa_nil))) (by with_unfolding_all rfl)) (pe_xfX hz hf (pv 1)) pe_int) pa_nil))))))))))))))), ?_⟩
    refine ⟨fl, Hf, sp, rfl, hf, L, k _ _ (fun v H' q => q) fun cls d H1 j n he hT kq => ?_⟩
    refine ⟨true, by rw [he.cls]; exact Er.sub j he.lt, fun _ a na => ?_, fun q => nomatch q⟩
    have szl : (1000 : Nat) < sizeLine := by decide
    refine ⟨_, rfl, _, .ref (He.ga K (nmE 0)), _, _, rfl, he.cls, Er.exc j he.lt, fun u r => r, Er.kit j 0 he.lt (by decide), he.xd, ⟨_, rfl, _, .ref (He.ga K (nmE 1)), _, _, rfl, he.cls, Er.exc j he.lt, fun u r => r, Er.kit j 1 he.lt (by decide), he.xd, ⟨_, rfl, _, .ref (He.ga K (nmE 2)), _, _, rfl, he.cls, Er.exc j he.lt, fun u r => r, Er.kit j 2 he.lt (by decide), he.xd, ⟨_, rfl, _, .ref (He.ga K (nmE 3)), _, _, rfl, he.cls, Er.exc j he.lt, fun u r => r, Er.kit j 3 he.lt (by decide), he.xd, (by show 4 ≤ sizeLine; decide), fun l1 n1 => ?_⟩⟩⟩⟩
    have x1 : Ex cs H1 (upd H1 l1 (.lst ([V.bl (decide (j = 0)), V.bl (decide (j = 1)), V.bl (decide (j = 2)), V.bl (decide (j = 3))]))) := Ex.laid hT n1
    have h1 : upd H1 l1 (.lst ([V.bl (decide (j = 0)), V.bl (decide (j = 1)), V.bl (decide (j = 2)), V.bl (decide (j = 3))])) l1 = some (.lst ([V.bl (decide (j = 0)), V.bl (decide (j = 1)), V.bl (decide (j = 2)), V.bl (decide (j = 3))])) := upd_same
    generalize upd H1 l1 (.lst ([V.bl (decide (j = 0)), V.bl (decide (j = 1)), V.bl (decide (j = 2)), V.bl (decide (j = 3))])) = H2 at x1 h1 ⊢
    have he1 := he.ex x1
    refine ⟨_, rfl, ⟨_, rfl, _, .ref (He.ga K (nmE 4)), _, _, rfl, he1.cls, Er.exc j he1.lt, fun u r => r, Er.kit j 4 he1.lt (by decide), he1.xd, ⟨_, rfl, _, .ref (He.ga K (nmE 5)), _, _, rfl, he1.cls, Er.exc j he1.lt, fun u r => r, Er.kit j 5 he1.lt (by decide), he1.xd, ⟨_, rfl, _, .ref (He.ga K (nmE 6)), _, _, rfl, he1.cls, Er.exc j he1.lt, fun u r => r, Er.kit j 6 he1.lt (by decide), he1.xd, (by show 3 ≤ sizeLine; decide), fun l2 n2 => ?_⟩⟩⟩⟩
    have x2 : Ex cs H2 (upd H2 l2 (.lst ([V.bl (decide (j = 4)), V.bl (decide (j = 5)), V.bl (decide (j = 6))]))) := Ex.laid x1.tab n2
    have h2 : upd H2 l2 (.lst ([V.bl (decide (j = 4)), V.bl (decide (j = 5)), V.bl (decide (j = 6))])) l2 = some (.lst ([V.bl (decide (j = 4)), V.bl (decide (j = 5)), V.bl (decide (j = 6))])) := upd_same
    generalize upd H2 l2 (.lst ([V.bl (decide (j = 4)), V.bl (decide (j = 5)), V.bl (decide (j = 6))])) = H3 at x2 h2 ⊢
    refine ⟨l1, l2, _, _, rfl, rfl, x2.lst h1, h2, by show 7 ≤ sizeLine; decide, fun l3 n3 => ?_⟩
    have x3 : Ex cs H3 (upd H3 l3 (.lst ([V.bl (decide (j = 0)), V.bl (decide (j = 1)), V.bl (decide (j = 2)), V.bl (decide (j = 3))] ++ [V.bl (decide (j = 4)), V.bl (decide (j = 5)), V.bl (decide (j = 6))]))) := Ex.laid x2.tab n3
    have h3 : upd H3 l3 (.lst ([V.bl (decide (j = 0)), V.bl (decide (j = 1)), V.bl (decide (j = 2)), V.bl (decide (j = 3))] ++ [V.bl (decide (j = 4)), V.bl (decide (j = 5)), V.bl (decide (j = 6))])) l3 = some (.lst ([V.bl (decide (j = 0)), V.bl (decide (j = 1)), V.bl (decide (j = 2)), V.bl (decide (j = 3))] ++ [V.bl (decide (j = 4)), V.bl (decide (j = 5)), V.bl (decide (j = 6))])) := upd_same
    generalize upd H3 l3 (.lst ([V.bl (decide (j = 0)), V.bl (decide (j = 1)), V.bl (decide (j = 2)), V.bl (decide (j = 3))] ++ [V.bl (decide (j = 4)), V.bl (decide (j = 5)), V.bl (decide (j = 6))])) = H4 at x3 h3 ⊢
    have he3 := (he1.ex x2).ex x3
    refine ⟨_, rfl, ⟨_, rfl, _, .ref (He.ga K (nmE 7)), _, _, rfl, he3.cls, Er.exc j he3.lt, fun u r => r, Er.kit j 7 he3.lt (by decide), he3.xd, ⟨_, rfl, _, .ref (He.ga K (nmE 8)), _, _, rfl, he3.cls, Er.exc j he3.lt, fun u r => r, Er.kit j 8 he3.lt (by decide), he3.xd, ⟨_, rfl, _, .ref (He.ga K (nmE 9)), _, _, rfl, he3.cls, Er.exc j he3.lt, fun u r => r, Er.kit j 9 he3.lt (by decide), he3.xd, (by show 3 ≤ sizeLine; decide), fun l4 n4 => ?_⟩⟩⟩⟩
    have x4 : Ex cs H4 (upd H4 l4 (.lst ([V.bl (decide (j = 7)), V.bl (decide (j = 8)), V.bl (decide (j = 9))]))) := Ex.laid x3.tab n4
    have h4 : upd H4 l4 (.lst ([V.bl (decide (j = 7)), V.bl (decide (j = 8)), V.bl (decide (j = 9))])) l4 = some (.lst ([V.bl (decide (j = 7)), V.bl (decide (j = 8)), V.bl (decide (j = 9))])) := upd_same
    generalize upd H4 l4 (.lst ([V.bl (decide (j = 7)), V.bl (decide (j = 8)), V.bl (decide (j = 9))])) = H5 at x4 h4 ⊢
    refine ⟨l3, l4, _, _, rfl, rfl, x4.lst h3, h4, by show 10 ≤ sizeLine; decide, fun l5 n5 => ?_⟩
    have x5 : Ex cs H5 (upd H5 l5 (.lst (([V.bl (decide (j = 0)), V.bl (decide (j = 1)), V.bl (decide (j = 2)), V.bl (decide (j = 3))] ++ [V.bl (decide (j = 4)), V.bl (decide (j = 5)), V.bl (decide (j = 6))]) ++ [V.bl (decide (j = 7)), V.bl (decide (j = 8)), V.bl (decide (j = 9))]))) := Ex.laid x4.tab n5
    have h5 : upd H5 l5 (.lst (([V.bl (decide (j = 0)), V.bl (decide (j = 1)), V.bl (decide (j = 2)), V.bl (decide (j = 3))] ++ [V.bl (decide (j = 4)), V.bl (decide (j = 5)), V.bl (decide (j = 6))]) ++ [V.bl (decide (j = 7)), V.bl (decide (j = 8)), V.bl (decide (j = 9))])) l5 = some (.lst (([V.bl (decide (j = 0)), V.bl (decide (j = 1)), V.bl (decide (j = 2)), V.bl (decide (j = 3))] ++ [V.bl (decide (j = 4)), V.bl (decide (j = 5)), V.bl (decide (j = 6))]) ++ [V.bl (decide (j = 7)), V.bl (decide (j = 8)), V.bl (decide (j = 9))])) := upd_same
    generalize upd H5 l5 (.lst (([V.bl (decide (j = 0)), V.bl (decide (j = 1)), V.bl (decide (j = 2)), V.bl (decide (j = 3))] ++ [V.bl (decide (j = 4)), V.bl (decide (j = 5)), V.bl (decide (j = 6))]) ++ [V.bl (decide (j = 7)), V.bl (decide (j = 8)), V.bl (decide (j = 9))])) = H6 at x5 h5 ⊢
    have y5 := (((x1.trans x2).trans x3).trans x4).trans x5
    have he5 := he.ex y5
    have n50 : H1 l5 = none := (((x1.trans x2).trans x3).trans x4).old _ n5
    refine ⟨_, rfl, .inl ⟨rfl, _, SqL.of h5⟩, ⟨_, rfl, _, .ref (He.ga K (nmE 10)), _, _, rfl, he5.cls, Er.exc j he5.lt, fun u r => r, Er.kit j 10 he5.lt (by decide), he5.xd, l5, _, _, rfl, rfl, h5, by show 10 < sizeLine; decide, ?_⟩⟩
    have x6 : Ex cs H1 (upd H6 l5 (.lst (kindsR j 11))) := ex_new hT y5 n50
    have h6 : upd H6 l5 (.lst (kindsR j 11)) l5 = some (.lst (kindsR j 11)) := upd_same
    show tSeq _ _ _ _ (upd H6 l5 (.lst (kindsR j 11)))
    generalize upd H6 l5 (.lst (kindsR j 11)) = H7 at x6 h6 ⊢
    have he6 := he.ex x6
    have hj := he.lt
    -- one of them, and a ValueError
    refine ⟨_, rfl, .inl ⟨rfl, _, SqL.of h6⟩, l5, _, .bl true, rfl, rfl, SqL.of h6, rfl, kinds_flat j hj, rfl, false, ?_, iteF ?_⟩
    · rw [kinds_cnt j hj]
      rfl
    refine ⟨_, rfl, _, .type "ValueError", true, _, rfl, he.cls, Er.exc j hj, fun u r => r, Er.val j hj, he6.xd, true, rfl, iteF ?_⟩
    -- its name
    refine ⟨by show 9 ≤ sizeLine; decide, fun l7 n7 => ?_⟩
    have x7 := x6.trans (Ex.laid (o := .lst [V.str "BadPage", V.str "BadStyle", V.str "BadRow", V.str "BadCell", V.str "BadCount", V.str "BadLines", V.str "BadStep", V.str "BadStroke", V.str "BadText"]) x6.tab n7)
    have h7 : upd H7 l7 (.lst [V.str "BadPage", V.str "BadStyle", V.str "BadRow", V.str "BadCell", V.str "BadCount", V.str "BadLines", V.str "BadStep", V.str "BadStroke", V.str "BadText"]) l7 = some (.lst [V.str "BadPage", V.str "BadStyle", V.str "BadRow", V.str "BadCell", V.str "BadCount", V.str "BadLines", V.str "BadStep", V.str "BadStroke", V.str "BadText"]) := upd_same
    have h67 : upd H7 l7 (.lst [V.str "BadPage", V.str "BadStyle", V.str "BadRow", V.str "BadCell", V.str "BadCount", V.str "BadLines", V.str "BadStep", V.str "BadStroke", V.str "BadText"]) l5 = some (.lst (kindsR j 11)) := by rw [upd_ne (ne_of_none h6 n7)]; exact h6
    generalize upd H7 l7 (.lst [V.str "BadPage", V.str "BadStyle", V.str "BadRow", V.str "BadCell", V.str "BadCount", V.str "BadLines", V.str "BadStep", V.str "BadStroke", V.str "BadText"]) = H8 at x7 h7 h67 ⊢
    refine ⟨_, rfl, by show 2 ≤ sizeLine; decide, fun l8 n8 => ?_⟩
    have x8 := x7.trans (Ex.laid (o := .lst [V.str "BadHand", V.str "TooMuch"]) x7.tab n8)
    refine ⟨l7, l8, _, _, rfl, rfl, by rw [upd_ne (ne_of_none h7 n8)]; exact h7, upd_same, by show 11 ≤ sizeLine; decide, fun l9 n9 => ?_⟩
    have x9 := x8.trans (Ex.laid (o := .lst ([V.str "BadPage", V.str "BadStyle", V.str "BadRow", V.str "BadCell", V.str "BadCount", V.str "BadLines", V.str "BadStep", V.str "BadStroke", V.str "BadText"] ++ [V.str "BadHand", V.str "TooMuch"])) x8.tab n9)
    have h9 : upd (upd H8 l8 (.lst [V.str "BadHand", V.str "TooMuch"])) l9 (.lst ([V.str "BadPage", V.str "BadStyle", V.str "BadRow", V.str "BadCell", V.str "BadCount", V.str "BadLines", V.str "BadStep", V.str "BadStroke", V.str "BadText"] ++ [V.str "BadHand", V.str "TooMuch"])) l9 = some (.lst ([V.str "BadPage", V.str "BadStyle", V.str "BadRow", V.str "BadCell", V.str "BadCount", V.str "BadLines", V.str "BadStep", V.str "BadStroke", V.str "BadText"] ++ [V.str "BadHand", V.str "TooMuch"])) := upd_same
    have h69 : upd (upd H8 l8 (.lst [V.str "BadHand", V.str "TooMuch"])) l9 (.lst ([V.str "BadPage", V.str "BadStyle", V.str "BadRow", V.str "BadCell", V.str "BadCount", V.str "BadLines", V.str "BadStep", V.str "BadStroke", V.str "BadText"] ++ [V.str "BadHand", V.str "TooMuch"])) l5 = some (.lst (kindsR j 11)) := by
      have e := upd_ne (H := H8) (o := HO.lst [V.str "BadHand", V.str "TooMuch"]) (ne_of_none h67 n8)
      rw [upd_ne (ne_of_none (e.trans h67) n9), e]
      exact h67
    refine ⟨_, rfl, .inl ⟨rfl, _, SqL.of h69⟩, l5, _, .bl true, j, .bl true, rfl, rfl, SqL.of h69, rfl, kinds_flat j hj, kinds_at j hj, rfl, fun m z hm hz => ?_, ?_⟩
    · rw [kinds_no j hj m hm] at hz
      cases hz
      rfl
    refine names_get j hj (h9.trans rfl) ?_
    generalize upd (upd H8 l8 (.lst [V.str "BadHand", V.str "TooMuch"])) l9 (.lst ([V.str "BadPage", V.str "BadStyle", V.str "BadRow", V.str "BadCell", V.str "BadCount", V.str "BadLines", V.str "BadStep", V.str "BadStroke", V.str "BadText"] ++ [V.str "BadHand", V.str "TooMuch"])) = H9 at x9
    clear h9 h69 h7 h67 n8 n9 n7 x8 x7 h6 he6 h5 n5 x5 he5 n50 y5
    have fin : ∀ {H' : Hp}, Ex cs H1 H' → ∀ T, H' T = none → Q (.ref T) (upd H' T (.tup [.str (nmE j), .int n])) := fun {H'} x T nT => kq T _ (x.trans (Ex.laid x.tab nT)) (x.old _ nT) upd_same
    have fld : ∀ {H' : Hp} {f : Str} {Z : VK}, Ex cs H1 H' → flE j = f → f ≠ "" → Z (.int n) H' → ∃ C : Addr, XfC K C ∧ PySem.W.findIn K (.ref C) f = some none ∧ ∃ v, ([some (V.ref fl), some (V.ref a), some (V.ref l5), some (V.ref l7), some (V.str (nmE j))] : L2.St)[1]? = some (some v) ∧ v = .ref a ∧ cls = .ref C ∧ ∃ (dd : Addr) (fs : List (Str × V)) (v : V), d = some dd ∧ H' dd = some (.xd fs) ∧ fs.lookup f = some v ∧ Z v H' := fun {H' f Z} x e ne q => by
      subst e
      obtain ⟨dd, e1, e2⟩ := (he.ex x).yes ne
      exact ⟨_, xfC_of (Er.exc j hj), Er.fld j hj ne, _, rfl, rfl, he.cls, dd, _, .int n, e1, e2, by simp [List.lookup], q⟩
    refine ⟨_, rfl, by show 2 ≤ sizeLine; decide, fun t1 nt1 => ⟨t1, _, rfl, .inr (SqT.of upd_same), rfl, rfl, _, rfl, ?_⟩⟩
    have xa := x9.trans (Ex.laid (o := .tup [.str "BadPage", .str "BadText"]) x9.tab nt1)
    show if inV (.str (nmE j)) [.str "BadPage", .str "BadText"] = true then _ else _
    rw [word_in j hj]
    by_cases c1 : j = 0 ∨ j = 8
    · rw [decide_eq_true c1]
      refine iteT ⟨_, rfl, ?_⟩
      refine fld xa (by rcases c1 with rfl | rfl <;> rfl) (by decide) ⟨by show 2 ≤ sizeLine; decide, fun T nT => fin xa T nT⟩
    · rw [decide_eq_false c1]
      refine iteF ⟨_, rfl, rfl, _, rfl, ?_⟩
      have e5 : decide (V.str (nmE j) = V.str "BadLines") = decide (j = 5) := by
        rw [← word_eq j hj]
        by_cases q : nmE j = "BadLines"
        · rw [decide_eq_true q, decide_eq_true (by rw [q])]
        · rw [decide_eq_false q, decide_eq_false (fun z => q (by injection z))]
      rw [e5]
      by_cases c2 : j = 5
      · rw [decide_eq_true c2]
        refine iteT ⟨_, rfl, ?_⟩
        refine fld xa (by rw [c2]; rfl) (by decide) ⟨by show 2 ≤ sizeLine; decide, fun T nT => fin xa T nT⟩
      · rw [decide_eq_false c2]
        refine iteF ⟨_, rfl, _, rfl, by show 2 ≤ sizeLine; decide, fun t2 nt2 => ⟨t2, _, rfl, .inr (SqT.of upd_same), rfl, rfl, _, rfl, ?_⟩⟩
        have xb := xa.trans (Ex.laid (o := .tup [.str "BadStep", .str "BadStroke"]) xa.tab nt2)
        show if inV (.str (nmE j)) [.str "BadStep", .str "BadStroke"] = true then _ else _
        rw [word_in2 j hj]
        by_cases c3 : j = 6 ∨ j = 7
        · rw [decide_eq_true c3]
          refine iteT ?_
          refine fld xb (by rcases c3 with rfl | rfl <;> rfl) (by decide) ⟨by show 2 ≤ sizeLine; decide, fun T nT => fin xb T nT⟩
        · rw [decide_eq_false c3]
          have e0 := (he.no (word_fl j hj c1 c2 c3)).1
          subst e0
          exact iteF ⟨by show 2 ≤ sizeLine; decide, fun T nT => fin xb T nT⟩
end
end TG

namespace TG
open PySem PySem.Spec PyProof.Rows L2 NdefX GenW Gx Lv Dl
/-! ### _law_all of several works, each refused alike and without a change -/
section
variable {P : Program} {w : World} {K : PySem.W.Frag} {mg : Str → Option Value} {base : Heap} {cs : List (Addr × Addr)}
/-- a work that is refused with the j-th class and n, in every heap that grew out of this one -/
def Ref (P : Program) (w : World) (K : PySem.W.Frag) (mg : Str → Option Value) (base : Heap) (cs : List (Addr × Addr)) (kl : Nat) (j : Nat) (n : Int) (H : Hp) (f : Addr) : Prop := ∃ (Hf : Hp → Prop) (sp : Sp), LamW P w K mg base kl f Hf sp ∧
  ∀ H1, Ex cs H H1 → Hf H1 ∧ ∀ (Z : VK) (E : XK), (∀ (cls : Value) (d : Option Addr) (H2 : Hp), ErrAt K H2 j n cls d → Ex cs H1 H2 → E cls d H2) → sp [] H1 Z E
theorem Ref.ex {kl j : Nat} {n : Int} {H H' : Hp} {f : Addr} (r : Ref P w K mg base cs kl j n H f) (x : Ex cs H H') : Ref P w K mg base cs kl j n H' f := by
  obtain ⟨Hf, sp, L, k⟩ := r
  exact ⟨Hf, sp, L, fun H1 y => k H1 (x.trans y)⟩
def spAllW (P : Program) (w : World) (K : PySem.W.Frag) (mg : Str → Option Value) (base : Heap) (cs : List (Addr × Addr)) (kl : Nat) : Sp := fun vs H Q _ => ∃ (a dd : Addr) (fs : List Addr) (j : Nat) (n : Int),
  vs = [.ref a, .ref dd] ∧ Tabs cs H ∧ H a = some (.lst (fs.map V.ref)) ∧ H dd = some (.tup [.str (nmE j), .int n]) ∧ (∀ f ∈ fs, Ref P w K mg base cs kl j n H f) ∧ ∀ H', Ex cs H H' → Q (.bl true) H'
abbrev nmAll : List Str := ["_law_works", "_law_due", "_law_work"]
theorem sc_all : FnScope nmAll ["_law_works", "_law_due"] (defScope s_all) := ⟨rfl, rfl, rfl, by decide +kernel, rfl, by decide +kernel, by decide +kernel⟩
theorem ok_allW {f g1 g2 : Addr} {fd fd1 fd2 : FuncData} {kl : Nat} (hkl : 5 ≤ kl + 1) (F : Fun K "_law_all" "_law_all" s_all f fd)
    (G1 : FnOk P w K mg base CX0 5 g1 fd1 ["_law_found", "_law_due"] (spAlike K 4)) (k1 : PySem.W.keepIn K (.ref g1) = true) (b1 : Binds K fd1 ["_law_found", "_law_due"] []) (m1 : mg "_law_alike" = some (.ref g1))
    (G2 : FnOk P w K mg base CX0 (kl + 1) g2 fd2 ["_law_work"] (spTellsW P w K mg base cs kl)) (k2 : PySem.W.keepIn K (.ref g2) = true) (b2 : Binds K fd2 ["_law_work"] []) (m2 : mg "_law_told" = some (.ref g2)) :
    FnOk P w K mg base CX0 (kl + 2) f fd ["_law_works", "_law_due"] (spAllW P w K mg base cs kl) := by
  refine F.ok sc_all (fun vs H Q E h => ?_) (fun cdv A outer s H vs Q E hr h => ?_)
  · obtain ⟨a, dd, fs, j, n, rfl, _⟩ := h
    rfl
  · obtain ⟨a, dd, fs, j, n, rfl, hT, ha, hdd, hR, k⟩ := h
    have nd := sc_all.nd
    have hu := hr.units
    have r5 : Room 5 _ := hr.mono hkl
    refine ⟨_, pss_one (ps_ret (pe_cmpR (op_eqD hu) (pe_lc (own := [("_law_work", 2)]) (g := gName 2) rfl nd (pi_list (pv 0)) (blkOk_by (own := [("_law_work", 2)]) (N := nmAll) (sc := defScope s_all) (by decide +kernel))
        (fun _ _ _ _ _ => pg_name (i := 2) nd rfl (Or.inl rfl)) (fun _ _ _ _ _ => pts_one (pt_not (pt_val (pe_call G1 r5 (by rfl) m1 k1 b1 .nil pass0 (pa_cons (pe_call G2 hr (by rfl) m2 k2 b2 .nil pass0 (pa_cons (pv 2) pa_nil)) (pa_cons (pv 1) pa_nil)))))) (fun _ _ _ _ _ => pv 2)) (pe_lst pa_nil) (nomark _))), ?_⟩
    refine ⟨_, rfl, a, rfl, ⟨_, SqL.of ha⟩, fun D nD => ?_⟩
    refine lc_list (xs := fs.map V.ref) (fun i H' => Ex cs H H' ∧ H' D = some (.lst [])) ⟨Ex.laid hT nD, upd_same⟩ (fun i H' _ x => SqL.of (x.1.lst ha)) ?_ ?_
    · rintro i x H' hx ⟨xe, hD⟩
      rw [List.getElem?_map] at hx
      cases hg : fs[i]? with
      | none => rw [hg] at hx; cases hx
      | some fl =>
        rw [hg] at hx
        cases hx
        obtain ⟨Hf, sp, L, kk⟩ := hR fl (List.mem_of_getElem? hg)
        obtain ⟨hf, run⟩ := kk H' xe
        refine ⟨rfl, _, rfl, fl, Hf, sp, rfl, hf, L, fun Z E hZ hE => run Z E fun cls d H1 he x1 => hE cls d H1 j n he x1.tab fun T H2 x2 nT hTt => ?_⟩
        have e2 : H2 dd = some (.tup [.str (nmE j), .int n]) := x2.tup (x1.tup (xe.tup hdd))
        exact ⟨_, rfl, _, _, .tuple [.str (nmE j), .int n], rfl, .tup (SqT.of hTt) (.cons (.str _) (.cons (.int _) .nil)), .tup (SqT.of e2) (.cons (.str _) (.cons (.int _) .nil)), by simp [PyData.depth, PyData.depthAll], by simp [dok, dokAll], true, rfl, iteF ⟨(xe.trans x1).trans x2, x2.lst (x1.lst hD)⟩⟩
    · rintro H' ⟨xe, hD⟩
      refine ⟨small0, fun p np => ?_⟩
      have xp := Ex.laid (o := .lst []) xe.tab np
      exact ⟨.list [], .list [], .lst (SqL.of (xp.lst hD)) .nil, .lst (SqL.of upd_same) .nil, rfl, rfl, k _ (xe.trans xp)⟩
end
end TG

namespace TG
open PySem PySem.Spec PyProof.Rows L2 Gx
/-! ### what is told of a def, told otherwise -/
section
variable {P : Program} {w : World} {K : PySem.W.Frag} {mg : Str → Option Value} {base : Heap} {k : Nat} {f : Addr} {fd : FuncData} {ps : List Str} {sp sp1 sp2 : Sp}
/-- a def that may raise, where it doesn't -/
def noE (sp : Sp) : Sp := fun vs H Q _ => sp vs H Q fun _ _ _ => False
theorem fn0_of (F : FnOk P w K mg base (L2.CX P w) k f fd ps sp) : FnOk P w K mg base CX0 k f fd ps (noE sp) := by
  refine ⟨fun vs H Q E h => F.len vs H Q _ h, fun A outer s H args us vs Q E hr e0 b r h => ?_⟩
  refine codeAny_mono (F.run A outer s H args us vs Q (fun _ _ _ => False) hr e0 b r h) fun r' s' hq => ?_
  cases r' with
  | error er =>
    obtain ⟨a, B, H', cls, d, _, _, _, _, _, _, _, z⟩ := hq
    exact z.elim
  | ok fl =>
    cases fl with
    | ret u => exact hq
    | next => exact hq
    | brk => exact False.elim hq
    | cont => exact False.elim hq
def orSp (sp1 sp2 : Sp) : Sp := fun vs H Q E => sp1 vs H Q E ∨ sp2 vs H Q E
theorem fn_or {CX : L2.CXT} (F1 : FnOk P w K mg base CX k f fd ps sp1) (F2 : FnOk P w K mg base CX k f fd ps sp2) : FnOk P w K mg base CX k f fd ps (orSp sp1 sp2) := by
  refine ⟨fun vs H Q E h => h.elim (F1.len vs H Q E) (F2.len vs H Q E), fun A outer s H args us vs Q E hr e0 b r h => ?_⟩
  rcases h with h | h
  · exact F1.run A outer s H args us vs Q E hr e0 b r h
  · exact F2.run A outer s H args us vs Q E hr e0 b r h
end
end TG


namespace TGK
open TG
open PySem PySem.Spec PyProof.Rows L2 NdefX GenW Gx Lv Dl
/-! ### works in general -/
abbrev LamT := Arguments × Expr × Scope
def sc00 : Scope := { kind := .function, names := [], isGenerator := false, isCoroutine := false }
def lam00 : LamT := ({ posonlyargs := [], args := [], vararg := none, kwonlyargs := [], kw_defaults := [], kwarg := none, defaults := [] }, .Name "x" ⟨0, 0, 0, 0⟩, sc00)
def lamOf : Expr → LamT
  | .Lambda p b sc _ => (p, b, sc)
  | _ => lam00
def stAt (l : List Stmt) (i : Nat) : Stmt := l.getD i (.Pass ⟨0, 0, 0, 0⟩)
/-- what a lambda's body wants, of what it caught -/
abbrev RW := List (Option V) → Hp → VK → XK → Prop
def spLamR (fr : List Str) (R : RW) (F : NF) : Sp := fun vs H Q E => vs = [] ∧ ∃ (ws : List (Option V)) (cl : List (Addr × Obj)), Caught F fr ws cl H ∧
  R ws (delC H cl) (fun v H' => (∀ c o, cl.lookup c = some o → H' c = none) → Q v (addC H' cl)) (fun cls d H' => (∀ c o, cl.lookup c = some o → H' c = none) → E cls d (addC H' cl))
theorem del_add {H : Hp} {cl : List (Addr × Obj)} (un : ∀ c o, cl.lookup c = some o → H c = none) : delC (addC H cl) cl = H := by
  funext b
  cases r : cl.lookup b with
  | some u => rw [delC_in r, un b u r]
  | none => rw [delC_out r, addC_out r]
theorem hfL_add {f : Addr} {F : NF} {e : Expr} {H : Hp} {cl : List (Addr × Obj)} (un : ∀ c o, cl.lookup c = some o → H c = none) (h : HfL f F e H) : HfL f F e (addC H cl) := ⟨add_at un h.1, add_at un h.2⟩
theorem hfD_add {f t : Addr} {F : NF} {e : Expr} {v : V} {H : Hp} {cl : List (Addr × Obj)} (un : ∀ c o, cl.lookup c = some o → H c = none) (h : HfD f F e t v H) : HfD f F e t v (addC H cl) := ⟨add_at un h.1, add_at un h.2.1, add_at un h.2.2⟩
/-! ### a lambda that is refused -/
theorem cell_ne (o : Obj) : ∀ ps, cellF o ≠ .tbl ps := fun ps z => by
  unfold cellF at z
  cases z
section
variable {cs : List (Addr × Addr)} {H H1 H2 : Hp} {cl : List (Addr × Obj)}
theorem ex_del (un : ∀ c o, cl.lookup c = some o → H c = none) (x : Ex cs (addC H cl) H1) : Ex cs H (delC H1 cl) := by
  have nl : ∀ {b : Addr} {o : HO}, H b = some o → cl.lookup b = none := fun {b o} h => by
    cases r : cl.lookup b with
    | none => rfl
    | some u => rw [un b u r] at h; cases h
  refine ⟨fun b o h n => ?_, fun r hr => ?_, fun b hb => ?_, fun b o h m => ?_⟩
  · rw [delC_out (nl h)]
    exact x.ext _ _ (by rw [addC_out (nl h)]; exact h) n
  · obtain ⟨ps, h1, h2⟩ := x.tab r hr
    refine ⟨ps, ?_, h2⟩
    cases e : cl.lookup r.2 with
    | none => rw [delC_out e]; exact h1
    | some u =>
      have := x.ext _ _ (addC_in (H := H) e) (cell_ne u)
      rw [h1] at this
      injection this with this
      exact absurd this.symm (cell_ne u ps)
  · cases e : cl.lookup b with
    | none =>
      rw [delC_out e] at hb
      have := x.old _ hb
      rw [addC_out e] at this
      exact this
    | some u => exact un b u e
  · rw [delC_out (nl h)]
    exact x.oth _ _ (by rw [addC_out (nl h)]; exact h) m
theorem ex_add (told : ∀ c o, cl.lookup c = some o → H1 c = some (cellF o)) (hu : ∀ c o, cl.lookup c = some o → H2 c = none) (x : Ex cs (delC H1 cl) H2) : Ex cs H1 (addC H2 cl) := by
  refine ⟨fun b o h n => ?_, fun r hr => ?_, fun b hb => ?_, fun b o h m => ?_⟩
  · cases e : cl.lookup b with
    | none => rw [addC_out e]; exact x.ext _ _ (by rw [delC_out e]; exact h) n
    | some u =>
      rw [told b u e] at h
      cases h
      exact addC_in e
  · obtain ⟨ps, h1, h2⟩ := x.tab r hr
    exact ⟨ps, add_at hu h1, h2⟩
  · cases e : cl.lookup b with
    | none =>
      rw [addC_out e] at hb
      have := x.old _ hb
      rw [delC_out e] at this
      exact this
    | some u => rw [addC_in e] at hb; cases hb
  · cases e : cl.lookup b with
    | none => rw [addC_out e]; exact x.oth _ _ (by rw [delC_out e]; exact h) m
    | some u =>
      rw [told b u e] at h
      cases h
      exact addC_in e
end
section
variable {P : Program} {w : World} {K : PySem.W.Frag} {mg : Str → Option Value} {base : Heap} {cs : List (Addr × Addr)}
theorem err_add {H : Hp} {cl : List (Addr × Obj)} {j : Nat} {n : Int} {cls : Value} {d : Option Addr} (hu : ∀ c o, cl.lookup c = some o → H c = none) (e : ErrAt K H j n cls d) : ErrAt K (addC H cl) j n cls d :=
  ⟨e.lt, e.cls, fun h => let ⟨dd, h1, h2⟩ := e.yes h; ⟨dd, h1, add_at hu h2⟩, e.no⟩
/-- a lambda whose body is refused, as a work of _law_all -/
theorem ref_of {kl j : Nat} {n : Int} {cells : List (Str × Addr)} {N N' ps fr names : List Str} {σ : L2.St} {cl : List (Addr × Obj)} {H : Hp} {f c' : Addr} {lc : List (Str × Addr)} {lam : LamT} {Hf : Hp → Prop} {qn : Str} {R : RW} {ws : List (Option V)} (sc : NScope N' ps fr lam.2.2) (hps : ∀ y, (y, NameKind.free) ∈ lam.2.2.names → y ∈ fr) (hsub : ∀ y ∈ fr, y ∈ names)
    (T : ToldC cells N names σ cl) (un : ∀ c o, cl.lookup c = some o → H c = none) (hF : lc = cloFrom cells lam.2.2.names []) (hl : ws.length = fr.length) (hw : ∀ (i : Nat) (y : Str) (v : V), fr[i]? = some y → ws[i]? = some (some v) → ∃ j : Nat, N[j]? = some y ∧ σ[j]? = some (some v))
    (hk : ∀ H1, Ex cs (addC H cl) H1 → Hf H1) (L : LamW P w K mg base kl f Hf (spLamR fr R ⟨"<lambda>", qn, lam.1, [], lam.2.2, lc, c'⟩))
    (run : ∀ H1, Ex cs H H1 → (∀ c o, cl.lookup c = some o → H1 c = none) → ∀ (Z : VK) (E' : XK), (∀ (cls : Value) (d : Option Addr) (H2 : Hp), ErrAt K H2 j n cls d → Ex cs H1 H2 → E' cls d H2) → R ws H1 Z E') :
    Ref P w K mg base cs kl j n (addC H cl) f := by
  refine ⟨Hf, _, L, fun H1 x => ⟨hk H1 x, fun Z E hE => ?_⟩⟩
  have told : ∀ c o, cl.lookup c = some o → H1 c = some (cellF o) := fun c o q => x.ext _ _ (addC_in q) (cell_ne o)
  refine ⟨rfl, ws, cl, caught_of T hF hps (fun y hy => PySem.mem_of_lookup (sc.frk y hy)) hsub hl told (fun i y v q1 q2 => hw i y v q1 q2), ?_⟩
  exact run (delC H1 cl) (ex_del un x) (fun c o q => delC_in q) _ _ fun cls d H2 he x2 hu => hE cls d _ (err_add hu he) (ex_add told hu x2)
end
end TGK

namespace TGK
open TG
open PySem PySem.Spec PyProof.Rows L2 NdefX GenW Gx Lv Dl
/-! ### a lambda is tried; what it gives, or the word of what it raised -/
theorem add_del {H : Hp} {cl : List (Addr × Obj)} (told : ∀ c o, cl.lookup c = some o → H c = some (cellF o)) : addC (delC H cl) cl = H := by
  funext b
  cases r : cl.lookup b with
  | some u => rw [addC_in r, told b u r]
  | none => rw [addC_out r, delC_out r]
section
variable {P : Program} {w : World} {K : PySem.W.Frag} {mg : Str → Option Value} {base : Heap} {cs : List (Addr × Addr)}
theorem tellsR {kl : Nat} {cells : List (Str × Addr)} {N N' ps fr names : List Str} {σ : L2.St} {cl : List (Addr × Obj)} {H : Hp} {f c' : Addr} {lc : List (Str × Addr)} {lam : LamT} {Hf : Hp → Prop} {Q0 : VK} {E : XK} {qn : Str} {R : RW} {ws : List (Option V)} (sc : NScope N' ps fr lam.2.2) (hps : ∀ y, (y, NameKind.free) ∈ lam.2.2.names → y ∈ fr) (hsub : ∀ y ∈ fr, y ∈ names)
    (T : ToldC cells N names σ cl) (un : ∀ c o, cl.lookup c = some o → H c = none) (hF : lc = cloFrom cells lam.2.2.names []) (hl : ws.length = fr.length) (hw : ∀ (i : Nat) (y : Str) (v : V), fr[i]? = some y → ws[i]? = some (some v) → ∃ j : Nat, N[j]? = some y ∧ σ[j]? = some (some v))
    (hf : Hf (addC H cl)) (L : LamW P w K mg base kl f Hf (spLamR fr R ⟨"<lambda>", qn, lam.1, [], lam.2.2, lc, c'⟩))
    (run : ∀ (Z : VK) (E' : XK), (∀ v H', ((∀ c o, cl.lookup c = some o → H' c = none) → Q0 v (addC H' cl)) → Z v H') →
      (∀ (j : Nat) (H' : Hp), j < 11 → flE j = "" → Tabs cs H' → (∀ (T : Addr) (H2 : Hp), Ex cs H' H2 → H' T = none → (∀ c o, cl.lookup c = some o → H2 c = none) → H2 T = some (.tup [.str (nmE j), .int 0]) → Q0 (.ref T) (addC H2 cl)) → E' (.ref (He.ga K (nmE j))) none H') → R ws H Z E') :
    spTellsW P w K mg base cs kl [.ref f] (addC H cl) Q0 E := by
  refine ⟨f, Hf, _, rfl, hf, L, fun Z E2 hZ hE => ?_⟩
  refine ⟨rfl, ws, cl, caught_of T hF hps (fun y hy => PySem.mem_of_lookup (sc.frk y hy)) hsub hl (fun c o q => addC_in q) (fun i y v q1 q2 => hw i y v q1 q2), ?_⟩
  rw [del_add un]
  refine run _ _ (fun v H' q hu => hZ _ _ (q hu)) fun j H' hj hfl hT kq hu => hE _ _ (addC H' cl) j 0 ⟨hj, rfl, fun n => absurd hfl n, fun _ => ⟨rfl, rfl⟩⟩ (fun r hr => ?_) fun T H2 x2 nT hTt => ?_
  · obtain ⟨ps, h1, h2⟩ := hT r hr
    exact ⟨ps, add_at hu h1, h2⟩
  · have told : ∀ c o, cl.lookup c = some o → H2 c = some (cellF o) := fun c o q => x2.ext _ _ (addC_in q) (cell_ne o)
    have nl : cl.lookup T = none := by
      cases e : cl.lookup T with
      | none => rfl
      | some u => rw [addC_in e] at nT; cases nT
    have q := kq T (delC H2 cl) (ex_del hu x2) (by rw [addC_out nl] at nT; exact nT) (fun c o q => delC_in q) (by rw [delC_out nl]; exact hTt)
    rw [add_del told] at q
    exact q
end
end TGK

namespace TG
open PySem PySem.Spec PyProof.Rows L2 NdefX GenW Gx Lv
def spTakeW : Sp := fun vs H Q _ => ∃ (b l : Addr) (many : Int), vs = [.ref b, .int many] ∧ BoxAt H b l ∧ 0 < many ∧ many < 4611686018427387904 ∧
  ∀ (r : Int) (H' : Hp), 0 ≤ r → r < many → BoxAt H' b l → KB b l H H' → Q (.int r) H'
section
variable {P : Program} {w : World} {K : PySem.W.Frag} {mg : Str → Option Value} {base : Heap}
theorem ok_takeW {f : Addr} {fd : FuncData} (F : Fun K "_law_take" "_law_take" s_take f fd) : FnOk P w K mg base CX0 1 f fd ["_law_box", "_law_many"] spTakeW := by
  refine F.ok sc_take (fun vs H Q E h => ?_) (fun cdv A outer s H vs Q E hr h => ?_)
  · obtain ⟨b, l, many, rfl, _⟩ := h
    rfl
  · obtain ⟨b, l, many, rfl, hB, m0, m1, k⟩ := h
    have nd := sc_take.nd
    have hu := hr.units
    refine ⟨_, pss_cons (ps_if (pt_cmpR (op_eqD hu) (pe_ix ix_list (pv 0) pe_int (fun _ _ => rfl)) (pe_lst pa_nil) (nomark _))
        (pss_cons (ps_asg (pe_op op_modN (pe_op op_mul (pe_ix ix_list (pv 0) pe_int (fun _ _ => rfl)) pe_int) pe_int) (pg_sub (pv 0) pe_int set_list))
          (pss_one (ps_ret (pe_op op_modN (pe_op op_fdivN (pe_ix ix_list (pv 0) pe_int (fun _ _ => rfl)) pe_int) (pv 1))))) pss_nil)
      (pss_cons (ps_set (i := 2) nd rfl (.inl rfl) (pe_ix ix_list (pe_ix ix_list (pv 0) pe_int (fun _ _ => rfl)) pe_int (fun _ _ => rfl)))
      (pss_cons (ps_asg (pe_op op_fdivW (pv 2) (pv 1)) (pg_sub (pe_ix ix_list (pv 0) pe_int (fun _ _ => rfl)) pe_int set_list))
      (pss_cons (ps_if (PW.pt (pw_or (pt_cmpR op_eq (pe_ix ix_list (pe_ix ix_list (pv 0) pe_int (fun _ _ => rfl)) pe_int (fun _ _ => rfl)) pe_int (nomark _)) (pw_or1 (pt_cmpR op_eq (pe_ix ix_list (pe_ix ix_list (pv 0) pe_int (fun _ _ => rfl)) pe_int (fun _ _ => rfl)) (pe_un un_neg pe_int) (nomark _)))))
          (pss_one (ps_expr (pe_bm PySem.F.plainAttrs_list PySem.F.slot_list_pop PySem.F.type_list_pop mt_popAt (pe_ix ix_list (pv 0) pe_int (fun _ _ => rfl)) (pa_cons pe_int pa_nil)))) pss_nil)
      (pss_one (ps_ret (pe_op op_modN (pv 2) (pv 1))))))), ?_⟩
    obtain ⟨ns, st, h1, h2, h3⟩ := id hB
    have nbl := box_ne hB
    have len2 : ∀ o, (upd H b o) l = some (.lst (ns.map V.int)) := fun o => by rw [upd_ne nbl.symm]; exact h2
    -- _law_box[0] == []
    refine ⟨_, rfl, b, _, 0, .ref l, rfl, rfl, SqL.of h1, rfl, small0, fun p np => ?_⟩
    have npb : b ≠ p := ne_of_none h1 np
    have npl : l ≠ p := ne_of_none h2 np
    have g1 : (upd H p (.lst [])) b = some (.lst [.ref l, .int st]) := by rw [upd_ne npb]; exact h1
    have g2 : (upd H p (.lst [])) l = some (.lst (ns.map V.int)) := by rw [upd_ne npl]; exact h2
    have kp : KB b l H (upd H p (.lst [])) := fun c o e _ _ => by rw [upd_ne (ne_of_none e np)]; exact e
    refine ⟨.list (ns.map PyData.int), .list [], .lst (SqL.of g2) (dp_ints ns), .lst (SqL.of upd_same) .nil, shaped_of_ints ns, rfl, _, rfl, ?_⟩
    cases ns with
    | nil =>
      refine iteT ?_
      refine ⟨_, rfl, b, _, 1, .int st, rfl, rfl, SqL.of g1, rfl, st, 48271, rfl, rfl, .inr (by decide), _, _, rfl, rfl, nz (by decide), _, rfl, b, _, 1, 1, rfl, rfl, g1, rfl, ?_⟩
      refine ⟨_, rfl, b, _, 1, _, rfl, rfl, SqL.of upd_same, rfl, _, _, rfl, rfl, ⟨by decide, by decide⟩, _, rfl, _, _, rfl, rfl, nz (by omega), ?_⟩
      refine k _ _ (Int.fmod_nonneg_of_pos _ m0) (Int.fmod_lt_of_pos _ m0) ⟨[], _, upd_same, by rw [upd_ne nbl.symm]; exact g2, h3⟩ fun c o e hc hl => ?_
      rw [upd_ne hc]
      exact kp c o e hc hl
    | cons n ns =>
      refine iteF ?_
      refine ⟨_, rfl, b, _, 0, .ref l, rfl, rfl, SqL.of g1, rfl, l, _, 0, .int n, rfl, rfl, SqL.of g2, at0, ?_⟩
      refine ⟨_, rfl, _, rfl, n, many, rfl, rfl, wide_div m0 (show many.natAbs < 2 ^ 64 by omega) (by decide) (by decide), _, rfl, b, _, 0, .ref l, rfl, rfl, SqL.of g1, rfl, l, _, 0, 0, rfl, rfl, g2, ix0, ?_⟩
      have j1 : ∀ o, (upd (upd H p (.lst [])) l o) b = some (.lst [.ref l, .int st]) := fun o => by rw [upd_ne nbl]; exact g1
      have kl : ∀ o, KB b l H (upd (upd H p (.lst [])) l o) := fun o c u e hc hl => by rw [upd_ne hl]; exact kp c u e hc hl
      have fin : ∀ ms : List Int, ms.length ≤ 63 → Q (.int (n.fmod many)) (upd (upd H p (.lst [])) l (.lst (ms.map V.int))) := fun ms hm =>
        k _ _ (Int.fmod_nonneg_of_pos _ m0) (Int.fmod_lt_of_pos _ m0) ⟨ms, st, j1 _, upd_same, hm⟩ (kl _)
      have e0 : (List.map V.int (n :: ns)).set 0 (V.int (n / many)) = List.map V.int (n / many :: ns) := rfl
      rw [e0]
      -- == 0 or == -1
      refine ⟨_, rfl, b, _, 0, .ref l, rfl, rfl, SqL.of (j1 _), rfl, l, _, 0, .int (n / many), rfl, rfl, SqL.of upd_same, at0, rfl, _, rfl, ?_⟩
      have done : ∀ H', (∃ ms : List Int, ms.length ≤ 63 ∧ H' = upd (upd H p (.lst [])) l (.lst (ms.map V.int))) → ∃ v, ([some (V.ref b), some (V.int many), some (V.int n)] : L2.St)[2]? = some (some v) ∧ ∃ v_1, ([some (V.ref b), some (V.int many), some (V.int n)] : L2.St)[1]? = some (some v_1) ∧ ∃ i j, v = V.int i ∧ v_1 = V.int j ∧ j ≠ 0 ∧ Q (V.int (i.fmod j)) H' := fun H' ⟨ms, hm, e⟩ => by
        subst e
        exact ⟨_, rfl, _, rfl, n, many, rfl, rfl, nz (by omega), fin ms hm⟩
      have pop : ∀ Z : VK, (∀ y H', H' = upd (upd H p (.lst [])) l (.lst (ns.map V.int)) → Z y H') → rPopAt (.ref l) [.int 0] (upd (upd H p (.lst [])) l (.lst (List.map V.int (n / many :: ns)))) Z := fun Z hZ =>
        ⟨l, _, 0, 0, _, rfl, rfl, upd_same, by decide, by decide, by simp [seqIndex?], rfl, hZ _ _ (by rw [upd_upd]; rfl)⟩
      have h3' : ns.length ≤ 63 := by simp at h3; omega
      by_cases hz : n / many = 0
      · rw [decide_eq_true (show V.int (n / many) = V.int 0 by rw [hz])]
        refine iteT (iteT ⟨_, rfl, b, _, 0, .ref l, rfl, rfl, SqL.of (j1 _), rfl, .inl ⟨rfl, _, SqL.of upd_same⟩, pop _ fun y H' e => done H' ⟨ns, h3', e⟩⟩)
      · rw [decide_eq_false (show ¬ V.int (n / many) = V.int 0 from fun z => hz (by injection z))]
        refine iteF ⟨_, rfl, b, _, 0, .ref l, rfl, rfl, SqL.of (j1 _), rfl, l, _, 0, .int (n / many), rfl, rfl, SqL.of upd_same, at0, 1, rfl, rfl, _, rfl, ?_⟩
        refine ite2 (fun _ => ⟨_, rfl, b, _, 0, .ref l, rfl, rfl, SqL.of (j1 _), rfl, .inl ⟨rfl, _, SqL.of upd_same⟩, pop _ fun y H' e => done H' ⟨ns, h3', e⟩⟩) fun _ => ?_
        exact done _ ⟨n / many :: ns, h3, rfl⟩
end
end TG

namespace TGK
open TG
open PySem PySem.Spec PyProof.Rows L2 NdefX GenW Gx Lv Dl EnT
/-! ### numbers that are none -/
def NoWh (lo hi : Int) (v : V) : Prop := (∃ i : Int, v = .int i ∧ ¬ (lo ≤ i ∧ i ≤ hi)) ∨ v = .non ∨ (∃ b, v = .bl b) ∨ ∃ z : Str, v = .str z
section
variable {P : Program} {w : World} {K : PySem.W.Frag} {mg : Str → Option Value} {base : Heap} {cs : List (Addr × Addr)} {S R C G : Addr}
def spWholeN : Sp := fun vs H Q _ => ∃ (v : V) (lo hi : Int), vs = [v, .int lo, .int hi] ∧ NoWh lo hi v ∧ Q (.bl false) H
theorem ok_wholeN {f : Addr} {fd : FuncData} (T : Txt mg) (F : Fun K "is_whole" "is_whole" s_is_whole f fd) : FnOk P w K mg base CX0 1 f fd ["value", "low", "high"] spWholeN := by
  refine F.ok sc_whole (fun vs H Q E h => ?_) (fun cdv A outer s H vs Q E hr h => ?_)
  · obtain ⟨i, lo, hi, rfl, _⟩ := h
    rfl
  · obtain ⟨v, lo, hi, rfl, hv, k⟩ := h
    refine ⟨_, pss_one (ps_ret (pe_and (pe_callB call_isi (by rfl) T.isin (by decide +kernel) (pa_cons (pv 0) (pa_cons (pe_bltn (v := .ty "int") (by rfl) T.int (by decide +kernel) rfl) pa_nil)))
      (pe_and (pe_not (pe_callB call_isi (by rfl) T.isin (by decide +kernel) (pa_cons (pv 0) (pa_cons (pe_bltn (v := .ty "bool") (by rfl) T.bool (by decide +kernel) rfl) pa_nil)))) (pe_one (pe_chain op_le op_le (pv 1) (pv 0) (pv 2)))))), ?_⟩
    rcases hv with ⟨i, rfl, hn⟩ | rfl | ⟨b, rfl⟩ | ⟨z, rfl⟩
    · refine ⟨_, rfl, _, _, _, _, true, rfl, .ty _, .base (.int i), kit_ty (by decide +kernel), true, rfl, iteT ⟨_, rfl, _, _, _, _, false, rfl, .ty _, .base (.int i), kit_ty (by decide +kernel), false, rfl, true, rfl, iteT ⟨_, rfl, _, rfl, lo, i, rfl, rfl, ?_⟩⟩⟩
      by_cases h1 : lo ≤ i
      · refine ⟨true, dT h1, iteT ⟨_, rfl, i, hi, rfl, rfl, ?_⟩⟩
        show Q (.bl (decide (i ≤ hi))) H
        rw [decide_eq_false fun z => hn ⟨h1, z⟩]
        exact k
      · exact ⟨false, dF h1, iteF k⟩
    · exact ⟨_, rfl, _, _, _, _, false, rfl, .ty _, .base .non, kit_ty (by decide +kernel), false, rfl, iteF k⟩
    · exact ⟨_, rfl, _, _, _, _, true, rfl, .ty _, .base (.bl b), kit_ty (by decide +kernel), true, rfl, iteT ⟨_, rfl, _, _, _, _, true, rfl, .ty _, .base (.bl b), kit_ty (by decide +kernel), true, rfl, false, rfl, iteF k⟩⟩
    · exact ⟨_, rfl, _, _, _, _, false, rfl, .ty _, .base (.str z), kit_ty (by decide +kernel), false, rfl, iteF k⟩
/-! ### what is no row -/
def NoT (H : Hp) (v : V) : Prop := v = .non ∨ (∃ i : Int, v = .int i) ∨ (∃ b, v = .bl b) ∨ ∃ t xs, v = .ref t ∧ H t = some (.tup xs)
def AnyC (H : Hp) (v : V) : Prop := NoT H v ∨ ∃ z, v = .str z ∧ z.length ≤ 1000
def BadC (H : Hp) (v : V) : Prop := NoT H v ∨ ∃ z, v = .str z ∧ z.length ≤ 1000 ∧ textB z 10 = false
def BadRv (H : Hp) (v : V) : Prop := v = .non ∨ (∃ i : Int, v = .int i) ∨ (∃ z : Str, v = .str z) ∨ (∃ t xs, v = .ref t ∧ H t = some (.lst xs)) ∨
  ∃ t xs, v = .ref t ∧ H t = some (.tup xs) ∧ ((xs.length = 0 ∨ 6 < xs.length ∧ xs.length ≤ 1000) ∨ (1 ≤ xs.length ∧ xs.length ≤ 6 ∧ (∀ x ∈ xs, AnyC H x) ∧ ∃ x ∈ xs, BadC H x))
theorem NoT.gw {H H' : Hp} {v : V} (h : NoT H v) (x : LamX.ExtN H H') : NoT H' v := by
  rcases h with h | h | h | ⟨t, xs, e, h⟩
  · exact .inl h
  · exact .inr (.inl h)
  · exact .inr (.inr (.inl h))
  · exact .inr (.inr (.inr ⟨t, xs, e, x _ _ h fun ps z => nomatch z⟩))
theorem AnyC.gw {H H' : Hp} {v : V} (h : AnyC H v) (x : LamX.ExtN H H') : AnyC H' v := h.imp (fun z => z.gw x) id
theorem BadC.gw {H H' : Hp} {v : V} (h : BadC H v) (x : LamX.ExtN H H') : BadC H' v := h.imp (fun z => z.gw x) id
theorem BadRv.gw {H H' : Hp} {v : V} (h : BadRv H v) (x : LamX.ExtN H H') : BadRv H' v := by
  rcases h with h | h | h | ⟨t, xs, e, h⟩ | ⟨t, xs, e, h, q⟩
  · exact .inl h
  · exact .inr (.inl h)
  · exact .inr (.inr (.inl h))
  · exact .inr (.inr (.inr (.inl ⟨t, xs, e, x _ _ h fun ps z => nomatch z⟩)))
  · refine .inr (.inr (.inr (.inr ⟨t, xs, e, x _ _ h (fun ps z => nomatch z), ?_⟩)))
    rcases q with q | ⟨q1, q2, q3, u, q4, q5⟩
    · exact .inl q
    · exact .inr ⟨q1, q2, fun y hy => (q3 y hy).gw x, u, q4, q5.gw x⟩
theorem NoT.text {H : Hp} {v : V} (h : NoT H v) : NoText K H v := by
  rcases h with rfl | ⟨i, rfl⟩ | ⟨b, rfl⟩ | ⟨t, xs, rfl, h⟩
  · exact ⟨_, .base .non, by decide +kernel⟩
  · exact ⟨_, .base (.int i), by decide +kernel⟩
  · exact ⟨_, .base (.bl b), by decide +kernel⟩
  · exact ⟨_, .base (.tup h), by decide +kernel⟩
def spRowN (cs : List (Addr × Addr)) : Sp := fun vs H Q _ => ∃ v : V, vs = [v] ∧ Tabs cs H ∧ BadRv H v ∧ ∀ H', Ex cs H H' → Q (.bl false) H'
theorem ok_rowN {f c Pt g : Addr} {fd fdg : FuncData} (T : Txt mg) (N : Consts mg) (F : Fun K "is_row" "is_row" s_is_row f fd) (hc : fd.code = .ref c) (TB : GxR.TabB base mg c Pt) (hm : (c, Pt) ∈ cs)
    (W : FnOk P w K mg base CX0 5 g fdg ["value", "most"] (spText2 K cs)) (kp : PySem.W.keepIn K (.ref g) = true) (bd : Binds K fdg ["value", "most"] []) (mgg : mg "is_text_of_signs" = some (.ref g)) : FnOk P w K mg base CX0 9 f fd ["value"] (spRowN cs) := by
  refine fun_okT F hc sc_row (fun vs H Q E h => ?_) (fun A outer s H vs Q E hr h => ?_)
  · obtain ⟨v, rfl, _⟩ := h
    rfl
  · obtain ⟨v, rfl, hT, hv, k⟩ := h
    obtain ⟨t1, e1⟩ := N.cells
    obtain ⟨t2, e2⟩ := N.signs
    refine ⟨_, pss_cons (ps_if (PW.pt (pw_or (pt_not (pt_val (pe_callB call_isi (by rfl) T.isin (by decide +kernel) (pa_cons (pv 0) (pa_cons (pe_bltn (v := .ty "tuple") (by rfl) T.tuple (by decide +kernel) rfl) pa_nil)))))
        (pw_or1 (pt_not (pt_chain op_le op_le pe_int (pe_callB call_len_seq (by rfl) T.len PySem.boot_len (pa_cons (pv 0) pa_nil)) (pe_glob (v := .int 6) rfl e1 ⟨_, rfl⟩)))))) (pss_one (ps_ret pe_bl)) pss_nil)
      (pss_one (ps_ret (pe_allG (k := 5) (P := Pt) hr (by rfl) T.all TB rfl ⟨rfl, rfl, by decide +kernel, by decide +kernel, rfl, rfl⟩ (pi_tup (pv 0))
        (fun A' code s4 H4 fp hr' => pe_call W hr' (by rfl) mgg kp bd .nil pass0 (pa_cons (pv 0) (pa_cons (pe_glob (v := .int 10) rfl e2 ⟨_, rfl⟩) pa_nil))) (fun _ => rfl)))), ?_⟩
    rcases hv with rfl | ⟨i, rfl⟩ | ⟨z, rfl⟩ | ⟨t, xs, rfl, hs⟩ | ⟨t, xs, rfl, hs, hx⟩
    · exact ⟨_, rfl, _, _, _, _, false, rfl, .ty _, .base .non, kit_ty (by decide +kernel), false, rfl, iteT (k H (Ex.refl hT))⟩
    · exact ⟨_, rfl, _, _, _, _, false, rfl, .ty _, .base (.int i), kit_ty (by decide +kernel), false, rfl, iteT (k H (Ex.refl hT))⟩
    · exact ⟨_, rfl, _, _, _, _, false, rfl, .ty _, .base (.str z), kit_ty (by decide +kernel), false, rfl, iteT (k H (Ex.refl hT))⟩
    · exact ⟨_, rfl, _, _, _, _, false, rfl, .ty _, ty_list (SqL.of hs), kit_ty (by decide +kernel), false, rfl, iteT (k H (Ex.refl hT))⟩
    · have hS : SqT K H t xs := SqT.of hs
      refine ⟨_, rfl, _, _, _, _, true, rfl, .ty _, ty_tup hS, kit_ty (by decide +kernel), true, rfl, iteF ⟨_, rfl, t, _, rfl, .inr hS, 1, _, rfl, rfl, ?_⟩⟩
      rcases hx with (h0 | ⟨h6, h7⟩) | ⟨h1, h6, ha, u, hu, hb⟩
      · exact ⟨false, dF (by omega), iteF ⟨_, rfl, iteT (k H (Ex.refl hT))⟩⟩
      · exact ⟨true, dT (by omega), iteT ⟨_, 6, rfl, rfl, false, dF (by omega), iteT (k H (Ex.refl hT))⟩⟩
      · refine ⟨true, dT (by omega), iteT ⟨_, 6, rfl, rfl, true, dT (by omega), iteF ⟨_, rfl, t, rfl, ⟨_, hS⟩, hT _ hm, fun H2 hH2 => ?_⟩⟩⟩
        have x2 := Ex.tabbed hT hm hH2
        refine all_by (w := walk_tup (a := t) (xs := xs)) (fun i => match xs[i]? with | some (.str z) => textB z 10 | _ => false) (fun _ H' => Ex cs H H') x2 (fun i H' _ x => x.sqT hS) (fun i v H3 H4 hi x y Z hZ => ?_) (fun H3 x hall => ?_) (fun i H3 hi hff x => k _ x)
        · obtain ⟨rfl, hv⟩ := y
          rcases ha v (List.mem_of_getElem? hv) with hn | ⟨z, rfl, hz⟩
          · refine ⟨_, rfl, v, 10, false, rfl, x.tab, .inl ⟨(hn.gw x.ext).text, rfl⟩, fun H5 x5 => ?_⟩
            have := hZ _ (x.trans x5)
            rw [hv] at this
            rcases hn with rfl | ⟨i, rfl⟩ | ⟨b, rfl⟩ | ⟨t, xs, rfl, h⟩ <;> exact this
          · refine ⟨_, rfl, .str z, 10, _, rfl, x.tab, .inr ⟨z, rfl, hz, rfl⟩, fun H5 x5 => ?_⟩
            have := hZ _ (x.trans x5)
            rw [hv] at this
            exact this
        · obtain ⟨i, hi, e⟩ := List.getElem_of_mem hu
          have q := hall i hi
          rw [List.getElem?_eq_getElem hi, e] at q
          rcases hb with (rfl | ⟨i, rfl⟩ | ⟨b, rfl⟩ | ⟨t, xs, rfl, h⟩) | ⟨z, rfl, _, hz⟩
          · cases q
          · cases q
          · cases q
          · cases q
          · have q : textB z 10 = true := q
            rw [hz] at q
            cases q
end
end TGK

namespace TGK
open TG
open PySem PySem.Spec PyProof.Rows L2 NdefX GenW Gx Lv Dl EnT
/-! ### what is no cell, no row, drawn -/
theorem cut_lo (z : Str) (n : Nat) : cl (cutS z (some ((n : Nat) : Int)) none) = (cl z).drop n := by
  obtain ⟨⟨l⟩⟩ := z
  unfold cutS
  simp only [cl, Str.length]
  rw [HT.sIx_none, HT.sIx_nat]
  simp
  by_cases h : n ≤ l.length
  · rw [Nat.min_eq_left h, List.take_of_length_le]
    rw [List.length_drop]
    exact Nat.le_refl _
  · rw [Nat.min_eq_right (by omega), Nat.sub_self, List.take_zero, List.drop_eq_nil_of_le (by omega)]
theorem cut_hi (z : Str) (n : Nat) : cl (cutS z none (some ((n : Nat) : Int))) = (cl z).take n := by
  obtain ⟨⟨l⟩⟩ := z
  unfold cutS
  simp only [cl, Str.length]
  rw [HT.sIx_none, HT.sIx_nat]
  simp
theorem onesLen {b l : Addr} {H H1 : Hp} {D : Addr} {i : Nat} (o : OnesAt b l H D i H1) : ∃ ys : List Str, H1 D = some (.lst (ys.map V.str)) ∧ (ys.map fun y => y.length).sum = i ∧ ys.length = i ∧ (Txt.join "" ys).length = i := by
  obtain ⟨cs, h1, h2, h3⟩ := o.ones
  have e : cl (Txt.join "" (cs.map fun c => (⟨#[c]⟩ : Str))) = cs := by
    rw [cl_join, List.map_map]
    clear h1 h2 h3
    induction cs with
    | nil => rfl
    | cons c cs ih =>
      rw [List.map_cons, List.flatten_cons, ih]
      rfl
  refine ⟨_, h3, ?_, by rw [List.length_map, h1], by rw [len_cl, e, h1]⟩
  rw [← h1]
  clear h1 h2 h3 e
  induction cs with
  | nil => rfl
  | cons c cs ih =>
    rw [List.map_cons, List.map_cons, List.sum_cons, ih, List.length_cons]
    show 1 + cs.length = cs.length + 1
    omega
theorem textB_bad {z : Str} {c : Nat} {m : Int} (h : c ∈ cl z) (hc : sgB c = false) : textB z m = false := by
  unfold textB
  have : (cl z).all sgB = false := by
    rw [Bool.eq_false_iff]
    intro q
    rw [List.all_eq_true.mp q c h] at hc
    cases hc
  rw [this, Bool.and_false]
theorem textB_long {z : Str} (h : 10 < z.length) : textB z 10 = false := by
  unfold textB
  rw [decide_eq_false (show ¬ ((z.length : Nat) : Int) ≤ 10 by omega)]
  rfl
section
variable {b l : Addr} {H H' : Hp} {v : V}
theorem NoT.kb (h : NoT H v) (B : BoxAt H b l) (x : KB b l H H') : NoT H' v := by
  rcases h with h | h | h | ⟨t, xs, e, h⟩
  · exact .inl h
  · exact .inr (.inl h)
  · exact .inr (.inr (.inl h))
  · obtain ⟨ns, st, e1, e2, _⟩ := B
    exact .inr (.inr (.inr ⟨t, xs, e, x _ _ h (fun z => by rw [z, e1] at h; cases h) fun z => by rw [z, e2] at h; cases h⟩))
theorem AnyC.kb (h : AnyC H v) (B : BoxAt H b l) (x : KB b l H H') : AnyC H' v := h.imp (fun z => z.kb B x) id
theorem BadC.kb (h : BadC H v) (B : BoxAt H b l) (x : KB b l H H') : BadC H' v := h.imp (fun z => z.kb B x) id
theorem BadC.any (h : BadC H v) : AnyC H v := h.imp id fun ⟨z, e, h, _⟩ => ⟨z, e, h⟩
/-- what is no row, beside the box -/
def BadRb (b l : Addr) (H : Hp) (v : V) : Prop := BadRv H v ∧ ∀ t xs, v = .ref t → H t = some (.lst xs) → t ≠ b ∧ t ≠ l
theorem BadRb.kb (h : BadRb b l H v) (B : BoxAt H b l) (x : KB b l H H') : BadRb b l H' v := by
  obtain ⟨h, q⟩ := h
  obtain ⟨ns, st, b1, b2, b3⟩ := id B
  have tp : ∀ {t : Addr} {xs : List V}, H t = some (.tup xs) → H' t = some (.tup xs) := fun {t xs} h => x _ _ h (fun z => by rw [z, b1] at h; cases h) fun z => by rw [z, b2] at h; cases h
  rcases h with h | ⟨i, h⟩ | ⟨z, h⟩ | ⟨t, xs, e, h⟩ | ⟨t, xs, e, h, q⟩
  · exact ⟨.inl h, fun t xs e => by rw [h] at e; cases e⟩
  · exact ⟨.inr (.inl ⟨i, h⟩), fun t xs e => by rw [h] at e; cases e⟩
  · exact ⟨.inr (.inr (.inl ⟨z, h⟩)), fun t xs e => by rw [h] at e; cases e⟩
  · obtain ⟨n1, n2⟩ := q t xs e h
    exact ⟨.inr (.inr (.inr (.inl ⟨t, xs, e, x _ _ h n1 n2⟩))), fun t2 ys e2 _ => by rw [e] at e2; cases e2; exact ⟨n1, n2⟩⟩
  · refine ⟨.inr (.inr (.inr (.inr ⟨t, xs, e, tp h, ?_⟩))), fun t2 ys e2 h2 => by rw [e] at e2; cases e2; rw [tp h] at h2; cases h2⟩
    rcases q with q | ⟨q1, q2, q3, u, q4, q5⟩
    · exact .inl q
    · exact .inr ⟨q1, q2, fun y hy => (q3 y hy).kb B x, u, q4, q5.kb B x⟩
end
section
variable {P : Program} {w : World} {K : PySem.W.Frag} {mg : Str → Option Value} {base : Heap} {cs : List (Addr × Addr)}
def spBadC : Sp := fun vs H Q _ => ∃ (b l : Addr), vs = [.ref b] ∧ BoxAt H b l ∧ ∀ (v : V) (H' : Hp), BoxAt H' b l → KB b l H H' → BadC H' v → Q v H'
abbrev nmBC : List Str := ["_law_box", "_law_way", "_law_many", "_law_text", "_law_place", "_law_k"]
theorem sc_BC : FnScope nmBC ["_law_box"] (defScope s_bad_cell) := ⟨rfl, rfl, rfl, by decide +kernel, rfl, by decide +kernel, by decide +kernel⟩
theorem abc7_len : (cl "abc 12-").length = 7 := by decide +kernel
theorem ok_badC {f gG : Addr} {fd fdG : FuncData} (T : Txt mg) (F : Fun K "_law_bad_cell" "_law_bad_cell" s_bad_cell f fd)
    (G : FnOk P w K mg base CX0 1 gG fdG ["_law_box", "_law_many"] spTakeW) (kG : PySem.W.keepIn K (.ref gG) = true) (bG : Binds K fdG ["_law_box", "_law_many"] []) (mG : mg "_law_take" = some (.ref gG)) : FnOk P w K mg base CX0 2 f fd ["_law_box"] spBadC := by
  refine F.ok sc_BC (fun vs H Q E h => ?_) (fun cdv A outer s H vs Q E hr h => ?_)
  · obtain ⟨b, l, rfl, _⟩ := h
    rfl
  · obtain ⟨b, l, rfl, hB, k⟩ := h
    have nd := sc_BC.nd
    have r1 : Room 1 _ := hr
    have szl : (9000 : Nat) < sizeLine := by decide
    refine ⟨_, (pss_cons (ps_par (i := 1) (j := 2) rfl nd rfl rfl (by decide) rfl rfl (pa_cons (pe_call G r1 (by rfl) mG kG bG .nil pass0 (pa_cons (pv 0) (pa_cons pe_int pa_nil))) (pa_cons (pe_call G r1 (by rfl) mG kG bG .nil pass0 (pa_cons (pv 0) (pa_cons pe_int pa_nil))) pa_nil)) (by rfl))
      (pss_cons (ps_set (i := 3) nd rfl (.inl rfl) (pe_join pe_str (pe_lc (own := [("_law_k", 5)]) (g := gName 5) (tt := tYes) rfl nd (pi_range1 (by rfl) T.range (pa_cons (pv 2) pa_nil)) (blkOk_by (own := [("_law_k", 5)]) (N := nmBC) (sc := defScope s_bad_cell) (by decide +kernel)) (fun _ _ _ _ _ => pg_name (i := 5) nd rfl (Or.inl rfl)) (fun _ _ _ _ _ => pts_nil) (fun s1 H1 C1 cl1 fp1 => (pe_ix ix_str pe_str (pe_call G r1 (by rfl) mG kG bG .nil pass0 (pa_cons (pv 0) (pa_cons pe_int pa_nil))) (fun _ _ => rfl))))))
      (pss_cons (ps_set (i := 4) nd rfl (.inl rfl) (pe_call G r1 (by rfl) mG kG bG .nil pass0 (pa_cons (pv 0) (pa_cons (pe_op op_add (pv 2) pe_int) pa_nil))))
      (pss_cons (ps_if (pt_cmpR op_lt (pv 1) pe_int (nomark _)) (pss_one (ps_ret (pe_op op_add_str (pe_op op_add_str (pe_slice sl_str (pv 3) po_none (po_some (pv 4))) (pe_ix ix_list (pe_lst (pa_cons pe_str (pa_cons pe_str (pa_cons pe_str pa_nil)))) (pv 1) (fun _ _ => rfl))) (pe_slice sl_str (pv 3) (po_some (pv 4)) po_none)))) pss_nil)
      (pss_cons (ps_if (pt_cmpR op_lt (pv 1) pe_int (nomark _)) (pss_one (ps_ret (pe_slice sl_str (pe_op op_add_str (pv 3) pe_str) po_none (po_some (pe_op op_add pe_int (pe_call G r1 (by rfl) mG kG bG .nil pass0 (pa_cons (pv 0) (pa_cons pe_int pa_nil)))))))) pss_nil)
      (pss_one (ps_ret (pe_ix ix_list (pe_lst (pa_cons pe_non (pa_cons pe_int (pa_cons (pe_tup (pa_cons pe_str pa_nil)) (pa_cons pe_bl (pa_cons (pe_tup pa_nil) pa_nil)))))) (pe_call G r1 (by rfl) mG kG bG .nil pass0 (pa_cons (pv 0) (pa_cons pe_int pa_nil))) (fun _ _ => rfl))))))))), ?_⟩
    refine ⟨_, rfl, b, l, 6, rfl, hB, by decide, by decide, fun way H1 w0 w1 hB1 x1 => ⟨_, rfl, b, l, 10, rfl, hB1, by decide, by decide, fun many H2 m0 m1 hB2 x2 => ⟨_, _, rfl, ?_⟩⟩⟩
    have x2 := x1.trans x2
    clear x1 hB1
    refine ⟨⟨_, rfl⟩, _, rfl, many, rfl, by omega, by omega, fun D nD => lc_range (n := many.toNat) (fun i H' => OnesAt b l H2 D i H') (OnesAt.start hB2 KB.refl nD hB2) ?_ ?_⟩
    · rintro i H4 hi o
      refine ⟨rfl, _, rfl, b, l, 7, rfl, o.box, by decide, by decide, fun r4 H5 a0 a1 hB5 x5 => ?_⟩
      obtain ⟨c, hc, ec⟩ := pick (xs := cl "abc 12-") (i := r4) a0 (by rw [abc7_len]; exact a1)
      obtain ⟨acc, hacc, hl, o2⟩ := o.more (c := c) (sg_of (z := "abc 12-") (by decide +kernel) c hc) hB5 x5
      exact ⟨_, r4, c, rfl, rfl, line10 (by decide +kernel), ec, acc, hacc, by omega, o2⟩
    rintro H3 o
    obtain ⟨ys, hD, q1, q2, jl⟩ := onesLen o
    refine ⟨_, D, ys, rfl, rfl, .inl (SqL.of hD), by rw [q1, emp_len]; omega, ?_⟩
    have x3 := x2.trans o.keep
    have hB3 := o.box
    clear o q1 q2 hD x2 hB2 nD
    generalize Txt.join "" ys = z at jl ⊢
    refine ⟨_, rfl, _, rfl, many, 1, rfl, rfl, b, l, _, rfl, hB3, by omega, by omega, fun pl H4 p0 p1 hB4 x4 => ?_⟩
    have x4 := x3.trans x4
    clear x3 hB3
    obtain ⟨pn, rfl⟩ := Int.eq_ofNat_of_zero_le p0
    by_cases w3 : way < 3
    · refine ⟨_, rfl, way, 3, rfl, rfl, true, dT w3, iteT ?_⟩
      refine ⟨_, rfl, _, rfl, _, rfl, z, rfl, by omega, by show 3 ≤ sizeLine; decide, fun q nq => ?_⟩
      obtain ⟨nb, nl⟩ := new_ne hB4 nq
      obtain ⟨s, hs, es⟩ := pick (xs := [("\t" : Str), "\n", "\n"]) (i := way) w0 (by show way < 3; exact w3)
      have hc : ∃ c ∈ cl s, sgB c = false := by
        simp only [List.mem_cons, List.not_mem_nil, or_false] at hs
        rcases hs with e | e | e <;> rw [e]
        · exact ⟨9, by decide +kernel, by decide +kernel⟩
        · exact ⟨10, by decide +kernel, by decide +kernel⟩
        · exact ⟨10, by decide +kernel, by decide +kernel⟩
      have sl : s.length = 1 := by
        simp only [List.mem_cons, List.not_mem_nil, or_false] at hs
        rcases hs with e | e | e <;> rw [e] <;> decide
      have l1 : (cutS z none (some ((pn : Nat) : Int))).length ≤ 9 := by rw [len_cl, cut_hi, List.length_take, ← len_cl]; omega
      have l2 : (cutS z (some ((pn : Nat) : Int)) none).length ≤ 9 := by rw [len_cl, cut_lo, List.length_drop, ← len_cl]; omega
      have la : ∀ x y : Str, (x ++ y).length = x.length + y.length := fun x y => by rw [len_cl, cl_app, List.length_append, ← len_cl, ← len_cl]
      refine ⟨_, rfl, q, _, _, .str s, rfl, rfl, SqL.of upd_same, atI_map (f := V.str) es, _, _, rfl, rfl, by rw [sl]; omega, _, rfl, _, rfl, _, rfl, z, rfl, by omega, _, _, rfl, rfl, by rw [la, sl]; omega, ?_⟩
      refine k _ _ (box_new hB4 nq) (x4.trans (kb_new nq)) (.inr ⟨_, rfl, by rw [la, la, sl]; omega, ?_⟩)
      obtain ⟨c, hc1, hc2⟩ := hc
      exact textB_bad (by rw [cl_app, cl_app]; exact List.mem_append_left _ (List.mem_append_right _ hc1)) hc2
    refine ⟨_, rfl, way, 3, rfl, rfl, false, dF w3, iteF ?_⟩
    by_cases w5 : way < 5
    · refine ⟨_, rfl, way, 5, rfl, rfl, true, dT w5, iteT ?_⟩
      have l11 : ("abcdefghijk" : Str).length = 11 := by decide
      have la : ∀ x y : Str, (x ++ y).length = x.length + y.length := fun x y => by rw [len_cl, cl_app, List.length_append, ← len_cl, ← len_cl]
      refine ⟨_, rfl, _, _, rfl, rfl, by omega, _, rfl, b, l, 9, rfl, hB4, by decide, by decide, fun u H5 u0 u1 hB5 x5 => ⟨11, u, rfl, rfl, _, rfl, _, rfl, by rw [la]; omega, ?_⟩⟩
      obtain ⟨un, rfl⟩ := Int.eq_ofNat_of_zero_le u0
      rw [show (11 : Int) + ((un : Nat) : Int) = ((11 + un : Nat) : Int) by omega]
      have ln : 11 ≤ (cutS (z ++ "abcdefghijk") none (some ((11 + un : Nat) : Int))).length ∧ (cutS (z ++ "abcdefghijk") none (some ((11 + un : Nat) : Int))).length ≤ 30 := by
        rw [len_cl, cut_hi, List.length_take, ← len_cl, la]
        omega
      exact k _ H5 hB5 (x4.trans x5) (.inr ⟨_, rfl, by omega, textB_long (by omega)⟩)
    refine ⟨_, rfl, way, 5, rfl, rfl, false, dF w5, iteF ?_⟩
    refine ⟨by show 1 ≤ sizeLine; decide, fun t1 n1 => ⟨small0, fun t2 n2 => ⟨by show 5 ≤ sizeLine; decide, fun q nq => ⟨_, rfl, b, l, 5, rfl, box_new (box_new (box_new hB4 n1) n2) nq, by decide, by decide, fun u H5 u0 u1 hB5 x5 => ?_⟩⟩⟩⟩
    have B1 := box_new (o := .tup [V.str "a"]) hB4 n1
    have B2 := box_new (o := .tup []) B1 n2
    obtain ⟨nb, nl⟩ := new_ne B2 nq
    have k1 : KB b l H (upd (upd (upd H4 t1 (.tup [V.str "a"])) t2 (.tup [])) q (.lst [V.non, .int 5, .ref t1, .bl true, .ref t2])) := ((x4.trans (kb_new n1)).trans (kb_new n2)).trans (kb_new nq)
    have hq := x5 q _ upd_same nb nl
    obtain ⟨v, hv, ev⟩ := pick (xs := ([.non, .int 5, .ref t1, .bl true, .ref t2] : List V)) (i := u) u0 u1
    refine ⟨q, _, _, v, rfl, rfl, SqL.of hq, ev, k v H5 hB5 (k1.trans x5) (.inl (NoT.kb ?_ (box_new B2 nq) x5))⟩
    have h1 : upd (upd (upd H4 t1 (.tup [V.str "a"])) t2 (.tup [])) q (.lst [V.non, .int 5, .ref t1, .bl true, .ref t2]) t1 = some (.tup [V.str "a"]) := by
      have e1 : upd H4 t1 (.tup [V.str "a"]) t1 = some (.tup [V.str "a"]) := upd_same
      have e2 : upd (upd H4 t1 (.tup [V.str "a"])) t2 (.tup []) t1 = some (.tup [V.str "a"]) := by rw [upd_ne (ne_of_none e1 n2)]; exact e1
      rw [upd_ne (ne_of_none e2 nq)]
      exact e2
    have h2 : upd (upd (upd H4 t1 (.tup [V.str "a"])) t2 (.tup [])) q (.lst [V.non, .int 5, .ref t1, .bl true, .ref t2]) t2 = some (.tup []) := by
      have e2 : upd (upd H4 t1 (.tup [V.str "a"])) t2 (.tup []) t2 = some (.tup []) := upd_same
      rw [upd_ne (ne_of_none e2 nq)]
      exact e2
    simp only [List.mem_cons, List.not_mem_nil, or_false] at hv
    rcases hv with e | e | e | e | e <;> rw [e]
    · exact .inl rfl
    · exact .inr (.inl ⟨_, rfl⟩)
    · exact .inr (.inr (.inr ⟨_, _, rfl, h1⟩))
    · exact .inr (.inr (.inl ⟨_, rfl⟩))
    · exact .inr (.inr (.inr ⟨_, _, rfl, h2⟩))
def spBadR (K : PySem.W.Frag) : Sp := fun vs H Q _ => ∃ (b l p : Addr) (r : List Str), vs = [.ref b, .ref p] ∧ BoxAt H b l ∧ H p = some (.tup (sV r)) ∧ RowOk r ∧ ∀ (v : V) (H' : Hp), BoxAt H' b l → KB b l H H' → BadRb b l H' v → Q v H'
abbrev nmBR : List Str := ["_law_box", "_law_row_here", "_law_way", "_law_k", "_law_some"]
theorem sc_BR : FnScope nmBR ["_law_box", "_law_row_here"] (defScope s_bad_row) := ⟨rfl, rfl, rfl, by decide +kernel, rfl, by decide +kernel, by decide +kernel⟩
theorem cutT_hi (xs : List V) (n : Nat) : cutV xs none (some ((n : Nat) : Int)) = xs.take n := by
  unfold cutV
  rw [HT.sIx_none, HT.sIx_nat]
  simp
theorem cutT_lo (xs : List V) (n : Nat) : cutV xs (some ((n : Nat) : Int)) none = xs.drop n := by
  unfold cutV
  rw [HT.sIx_none, HT.sIx_nat]
  by_cases h : n ≤ xs.length
  · rw [Nat.min_eq_left h, List.take_of_length_le]
    rw [List.length_drop]
    exact Nat.le_refl _
  · rw [Nat.min_eq_right (by omega), Nat.sub_self, List.take_zero, List.drop_eq_nil_of_le (by omega)]
theorem rep_len7 (xs : List V) : ∀ n, (List.replicate n xs).flatten.length = n * xs.length
  | 0 => by simp
  | n + 1 => by rw [List.replicate_succ, List.flatten_cons, List.length_append, rep_len7 xs n, Nat.succ_mul]; omega
theorem ok_badR {f gG gC : Addr} {fd fdG fdC : FuncData} (T : Txt mg) (F : Fun K "_law_bad_row" "_law_bad_row" s_bad_row f fd)
    (G : FnOk P w K mg base CX0 1 gG fdG ["_law_box", "_law_many"] spTakeW) (kG : PySem.W.keepIn K (.ref gG) = true) (bG : Binds K fdG ["_law_box", "_law_many"] []) (mG : mg "_law_take" = some (.ref gG))
    (C : FnOk P w K mg base CX0 2 gC fdC ["_law_box"] spBadC) (kC : PySem.W.keepIn K (.ref gC) = true) (bC : Binds K fdC ["_law_box"] []) (mC : mg "_law_bad_cell" = some (.ref gC)) : FnOk P w K mg base CX0 3 f fd ["_law_box", "_law_row_here"] (spBadR K) := by
  refine F.ok sc_BR (fun vs H Q E h => ?_) (fun cdv A outer s H vs Q E hr h => ?_)
  · obtain ⟨b, l, p, r, rfl, _⟩ := h
    rfl
  · obtain ⟨b, l, p, r, rfl, hB, hp, hR, k⟩ := h
    have nd := sc_BR.nd
    have r1 : Room 1 _ := hr.mono (by decide)
    have r2 : Room 2 _ := hr
    have szl : (9000 : Nat) < sizeLine := by decide
    refine ⟨_, (pss_cons (ps_par (i := 2) (j := 3) rfl nd rfl rfl (by decide) rfl rfl (pa_cons (pe_call G r1 (by rfl) mG kG bG .nil pass0 (pa_cons (pv 0) (pa_cons pe_int pa_nil))) (pa_cons (pe_call G r1 (by rfl) mG kG bG .nil pass0 (pa_cons (pv 0) (pa_cons (pe_callB call_len_seq (by rfl) T.len PySem.boot_len (pa_cons (pv 1) pa_nil)) pa_nil))) pa_nil)) (by rfl))
      (pss_cons (ps_if (pt_cmpR op_lt (pv 2) pe_int (nomark _)) (pss_one (ps_ret (pe_op op_catA (pe_op op_catA (pe_slice sl_tupA (pv 1) po_none (po_some (pv 3))) (pe_tup (pa_cons (pe_call C r2 (by rfl) mC kC bC .nil pass0 (pa_cons (pv 0) pa_nil)) pa_nil))) (pe_slice sl_tupA (pv 1) (po_some (pe_op op_add (pv 3) pe_int)) po_none)))) pss_nil)
      (pss_cons (ps_set (i := 4) nd rfl (.inl rfl) (pe_lst (pa_cons (pe_tup pa_nil) (pa_cons (pe_slice sl_tupA (pe_op op_repT (pv 1) pe_int) po_none (po_some (pe_op op_add pe_int (pe_call G r1 (by rfl) mG kG bG .nil pass0 (pa_cons (pv 0) (pa_cons pe_int pa_nil)))))) (pa_cons (pe_callTy call_list_of (by rfl) T.list (by decide +kernel) (pa_cons (pv 1) pa_nil)) (pa_cons pe_non (pa_cons pe_str (pa_cons pe_int (pa_cons (pe_ix ix_tup (pv 1) pe_int (fun _ _ => rfl)) pa_nil)))))))))
      (pss_one (ps_ret (pe_ix ix_list (pv 4) (pe_call G r1 (by rfl) mG kG bG .nil pass0 (pa_cons (pv 0) (pa_cons pe_int pa_nil))) (fun _ _ => rfl))))))), ?_⟩
    have h1 := hR.pos
    have h6 := hR.len
    have ll : (sV r).length = r.length := List.length_map ..
    have bx : ∀ {H1 : Hp} {t : Addr} {xs : List V}, BoxAt H1 b l → H1 t = some (.tup xs) → t ≠ b ∧ t ≠ l := fun B h => by
      obtain ⟨ns, st, e1, e2, _⟩ := B
      exact ⟨(fun z => by rw [z, e1] at h; cases h), fun z => by rw [z, e2] at h; cases h⟩
    obtain ⟨pb, pl⟩ := bx hB hp
    refine ⟨_, rfl, b, l, 6, rfl, hB, by decide, by decide, fun way H1 w0 w1 hB1 x1 => ⟨_, rfl, _, rfl, p, _, rfl, .inr (SqT.of (x1 _ _ hp pb pl)), b, l, _, rfl, hB1, by omega, by omega, fun kk H2 k0 k1 hB2 x2 => ⟨_, _, rfl, ?_⟩⟩⟩
    have x2 := x1.trans x2
    have hp2 := x2 _ _ hp pb pl
    clear x1 hB1
    obtain ⟨n, rfl⟩ := Int.eq_ofNat_of_zero_le k0
    have hn : n < r.length := by omega
    by_cases w3 : way < 3
    · refine ⟨_, rfl, way, 3, rfl, rfl, true, dT w3, iteT ?_⟩
      have s1 : HT.sIx (sV r).length (sV r).length (some ((n : Nat) : Int)) = n := by rw [HT.sIx_nat, ll]; omega
      refine ⟨_, rfl, _, rfl, _, rfl, p, _, rfl, SqT.of hp2, fun e => absurd e.2 (by rw [s1, ll]; omega), fun _ q1 n1 => ?_⟩
      rw [cutT_hi]
      have B1 := box_new (o := .tup ((sV r).take n)) hB2 n1
      have y1 := x2.trans (kb_new (b := b) (l := l) (o := .tup ((sV r).take n)) n1)
      have hq1 : upd H2 q1 (.tup ((sV r).take n)) q1 = some (.tup ((sV r).take n)) := upd_same
      generalize upd H2 q1 (.tup ((sV r).take n)) = H3 at B1 y1 hq1 ⊢
      refine ⟨_, rfl, b, l, rfl, B1, fun v H4 hB4 x4 hv => ⟨by show 1 ≤ sizeLine; decide, fun q2 n2 => ?_⟩⟩
      obtain ⟨qb, ql⟩ := bx B1 hq1
      have hq1 := x4 _ _ hq1 qb ql
      have y4 := y1.trans x4
      have B5 := box_new (o := .tup [v]) hB4 n2
      have hv := hv.kb hB4 (kb_new (o := .tup [v]) n2)
      have y5 := y4.trans (kb_new (b := b) (l := l) (o := .tup [v]) n2)
      have hq2 : upd H4 q2 (.tup [v]) q2 = some (.tup [v]) := upd_same
      have hq1 : upd H4 q2 (.tup [v]) q1 = some (.tup ((sV r).take n)) := by rw [upd_ne (ne_of_none hq1 n2)]; exact hq1
      generalize upd H4 q2 (.tup [v]) = H5 at B5 y5 hq1 hq2 hv ⊢
      have lt1 : ((sV r).take n).length = n := by rw [List.length_take, ll]; omega
      -- what is put together ahead
      have key : ∀ (q : Addr) (H6 : Hp), BoxAt H6 b l → KB b l H5 H6 → H6 q = some (.tup ((sV r).take n ++ [v])) → ∀ Z : VK, (∀ (u : Addr) (H7 : Hp), BoxAt H7 b l → KB b l H6 H7 → H7 u = some (.tup ((sV r).take n ++ [v] ++ (sV r).drop (n + 1))) → Z (.ref u) H7) →
          (fun σ H => ∃ x, (σ : L2.St)[1]? = some (some x) ∧ (∃ y, σ[3]? = some (some y) ∧ ∃ i j, y = V.int i ∧ V.int 1 = V.int j ∧ ∃ i', V.int (i + j) = V.int i' ∧ rSlA K x (some i') none H fun w H1 => rCatA K (.ref q) w H1 Z)) [some (.ref b), some (.ref p), some (.int way), some (.int (n : Nat)), none] H6 := by
        intro q H6 B6 x6 hq Z hZ
        have hp6 := x6 _ _ (y5 _ _ hp pb pl) pb pl
        refine ⟨_, rfl, _, rfl, _, _, rfl, rfl, _, rfl, p, _, rfl, SqT.of hp6, fun e => ?_, fun _ u nu => ?_⟩
        · have e1 := e.1
          rw [show ((n : Nat) : Int) + 1 = ((n + 1 : Nat) : Int) by omega, HT.sIx_nat, ll] at e1
          omega
        · rw [show ((n : Nat) : Int) + 1 = ((n + 1 : Nat) : Int) by omega, cutT_lo]
          have hq' : upd H6 u (.tup ((sV r).drop (n + 1))) q = some (.tup ((sV r).take n ++ [v])) := by rw [upd_ne (ne_of_none hq nu)]; exact hq
          have hu : upd H6 u (.tup ((sV r).drop (n + 1))) u = some (.tup ((sV r).drop (n + 1))) := upd_same
          have Bu := box_new (o := .tup ((sV r).drop (n + 1))) B6 nu
          have ku := kb_new (b := b) (l := l) (o := .tup ((sV r).drop (n + 1))) nu
          generalize upd H6 u (.tup ((sV r).drop (n + 1))) = H7 at hq' hu Bu ku ⊢
          refine ⟨q, u, _, _, rfl, rfl, SqT.of hq', SqT.of hu, by rw [List.length_append, lt1, List.length_drop, ll]; show n + 1 + (r.length - (n + 1)) ≤ sizeLine; omega, fun z => absurd z (by simp), fun _ z => ?_, fun _ _ u2 n2 => ?_⟩
          · refine hZ q H7 Bu ku ?_
            rw [z, List.append_nil]
            exact hq'
          · exact hZ u2 _ (box_new Bu n2) (ku.trans (kb_new n2)) upd_same
      have fin : ∀ (u : Addr) (H7 : Hp), BoxAt H7 b l → KB b l H5 H7 → H7 u = some (.tup ((sV r).take n ++ [v] ++ (sV r).drop (n + 1))) → Q (.ref u) H7 := fun u H7 B7 x7 hu => by
        refine k _ H7 B7 (y5.trans x7) ⟨.inr (.inr (.inr (.inr ⟨u, _, rfl, hu, .inr ⟨?_, ?_, fun x hx => ?_, v, ?_, hv.kb B5 x7⟩⟩))), fun t xs e h => ?_⟩
        · rw [List.length_append, List.length_append, lt1]
          show 1 ≤ n + 1 + _
          omega
        · rw [List.length_append, List.length_append, lt1, List.length_drop, ll]
          show n + 1 + (r.length - (n + 1)) ≤ 6
          omega
        · have mem : x ∈ sV r ∨ x = v := by
            rcases List.mem_append.mp hx with h | h
            · rcases List.mem_append.mp h with h | h
              · exact .inl (List.mem_of_mem_take h)
              · exact .inr (List.mem_singleton.mp h)
            · exact .inl (List.mem_of_mem_drop h)
          rcases mem with h | h
          · obtain ⟨z, hz, rfl⟩ := List.mem_map.mp h
            have := (hR.cells z hz).1
            exact .inr ⟨z, rfl, by omega⟩
          · rw [h]
            exact (hv.kb B5 x7).any
        · exact List.mem_append_left _ (List.mem_append_right _ (List.mem_singleton.mpr rfl))
        · cases e
          rw [hu] at h
          cases h
      refine ⟨q1, q2, _, _, rfl, rfl, SqT.of hq1, SqT.of hq2, by rw [lt1]; show n + 1 ≤ sizeLine; omega, fun e0 => ?_, fun _ z => absurd z (by simp), fun _ _ q3 n3 => ?_⟩
      · exact key q2 H5 B5 KB.refl (by rw [e0]; exact hq2) Q fun u H7 B7 x7 hu => fin u H7 B7 x7 hu
      · have B6 := box_new (o := .tup ((sV r).take n ++ [v])) B5 n3
        exact key q3 _ B6 (kb_new n3) upd_same Q fun u H7 B7 x7 hu => fin u H7 B7 ((kb_new n3).trans x7) hu
    refine ⟨_, rfl, way, 3, rfl, rfl, false, dF w3, iteF ?_⟩
    -- seven others
    refine ⟨small0, fun t0 n0 => ?_⟩
    have B3 := box_new (o := .tup []) hB2 n0
    have y3 := x2.trans (kb_new (b := b) (l := l) (o := .tup []) n0)
    have ht0 : upd H2 t0 (.tup []) t0 = some (.tup []) := upd_same
    generalize upd H2 t0 (.tup []) = H3 at B3 y3 ht0 ⊢
    refine ⟨_, rfl, p, 7, _, rfl, rfl, SqT.of (y3 _ _ hp pb pl), fun e => by rw [e] at ll; have : (0 : Nat) = r.length := ll; omega, by decide, by decide, by omega, fun t1 n1 => ?_⟩
    have l7 : (List.replicate (7 : Int).toNat (sV r)).flatten.length = 7 * r.length := by rw [rep_len7, ll]; rfl
    generalize (List.replicate (7 : Int).toNat (sV r)).flatten = ws at l7 ⊢
    have B4 := box_new (o := .tup ws) B3 n1
    have y4 := y3.trans (kb_new (b := b) (l := l) (o := .tup ws) n1)
    have ht1 : upd H3 t1 (.tup ws) t1 = some (.tup ws) := upd_same
    have ht0 : upd H3 t1 (.tup ws) t0 = some (.tup []) := by rw [upd_ne (ne_of_none ht0 n1)]; exact ht0
    generalize upd H3 t1 (.tup ws) = H4 at B4 y4 ht0 ht1 ⊢
    refine ⟨_, rfl, b, l, 3, rfl, B4, by decide, by decide, fun u H5 u0 u1 hB5 x5 => ⟨7, u, rfl, rfl, _, rfl, ?_⟩⟩
    obtain ⟨un, rfl⟩ := Int.eq_ofNat_of_zero_le u0
    obtain ⟨b0, l0⟩ := bx B4 ht0
    obtain ⟨b1, l1⟩ := bx B4 ht1
    have ht0 := x5 _ _ ht0 b0 l0
    have ht1 := x5 _ _ ht1 b1 l1
    have y5 := y4.trans x5
    clear x5 B4 y4
    have rest : ∀ (t2 : Addr) (us : List V) (H6 : Hp), BoxAt H6 b l → KB b l H5 H6 → H6 t2 = some (.tup us) → 7 ≤ us.length → us.length ≤ 42 → ∀ Z : Prop, (∀ (t3 : Addr) (H7 : Hp) (qq : Addr) (H8 : Hp), H6 t3 = none → H7 = upd H6 t3 (.lst (sV r)) → H7 qq = none → H8 = upd H7 qq (.lst [.ref t0, .ref t2, .ref t3, .non, .str "ab", .int 5, .str (r.getD 0 "")]) → ∀ (z : Int) (H9 : Hp), 0 ≤ z → z < 7 → BoxAt H9 b l → KB b l H8 H9 → ∃ v, atI [.ref t0, .ref t2, .ref t3, .non, .str "ab", .int 5, .str (r.getD 0 "")] z = some v ∧ H9 qq = some (.lst [.ref t0, .ref t2, .ref t3, .non, .str "ab", .int 5, .str (r.getD 0 "")]) ∧ Q v H9) := by
      intro t2 us H6 B6 x6 ht2 u7 u42 _ t3 H7 qq H8 n3 e7 nq e8 z H9 z0 z1 B9 x9
      have ht0 := x6 _ _ ht0 b0 l0
      obtain ⟨b2, l2⟩ := bx B6 ht2
      have B7 : BoxAt H7 b l := by rw [e7]; exact box_new B6 n3
      have k7 : KB b l H6 H7 := by rw [e7]; exact kb_new n3
      obtain ⟨b3, l3⟩ := new_ne B6 n3
      have h3 : H7 t3 = some (.lst (sV r)) := by rw [e7]; exact upd_same
      have B8 : BoxAt H8 b l := by rw [e8]; exact box_new B7 nq
      have k8 : KB b l H7 H8 := by rw [e8]; exact kb_new nq
      obtain ⟨b8, l8⟩ := new_ne B7 nq
      have hq : H8 qq = some (.lst [.ref t0, .ref t2, .ref t3, .non, .str "ab", .int 5, .str (r.getD 0 "")]) := by rw [e8]; exact upd_same
      have kk := (k7.trans k8).trans x9
      have g0 := kk _ _ ht0 b0 l0
      have g2 := kk _ _ ht2 b2 l2
      have g3 := (k8.trans x9) _ _ h3 b3 l3
      obtain ⟨v, hv, ev⟩ := pick (xs := ([.ref t0, .ref t2, .ref t3, .non, .str "ab", .int 5, .str (r.getD 0 "")] : List V)) (i := z) z0 z1
      refine ⟨v, ev, x9 _ _ hq b8 l8, k v H9 B9 ((y5.trans x6).trans kk) ?_⟩
      simp only [List.mem_cons, List.not_mem_nil, or_false] at hv
      rcases hv with e | e | e | e | e | e | e <;> rw [e]
      · exact ⟨.inr (.inr (.inr (.inr ⟨_, _, rfl, g0, .inl (.inl rfl)⟩))), fun t xs e h => by cases e; rw [g0] at h; cases h⟩
      · exact ⟨.inr (.inr (.inr (.inr ⟨_, _, rfl, g2, .inl (.inr ⟨by omega, by omega⟩)⟩))), fun t xs e h => by cases e; rw [g2] at h; cases h⟩
      · exact ⟨.inr (.inr (.inr (.inl ⟨_, _, rfl, g3⟩))), fun t xs e h => by cases e; exact ⟨b3, l3⟩⟩
      · exact ⟨.inl rfl, fun t xs e h => nomatch e⟩
      · exact ⟨.inr (.inr (.inl ⟨_, rfl⟩)), fun t xs e h => nomatch e⟩
      · exact ⟨.inr (.inl ⟨_, rfl⟩), fun t xs e h => nomatch e⟩
      · exact ⟨.inr (.inr (.inl ⟨_, rfl⟩)), fun t xs e h => nomatch e⟩
    have go : ∀ (t2 : Addr) (us : List V) (H6 : Hp), BoxAt H6 b l → KB b l H5 H6 → H6 t2 = some (.tup us) → 7 ≤ us.length → us.length ≤ 42 → _ := fun t2 us H6 B6 x6 ht2 u7 u42 => rest t2 us H6 B6 x6 ht2 u7 u42 True
    have r0 : (sV r)[0]? = some (.str (r.getD 0 "")) := by
      rw [List.getElem?_map, List.getElem?_eq_getElem (by omega), List.getD_eq_getElem?_getD, List.getElem?_eq_getElem (by omega)]
      rfl
    refine ⟨t1, ws, rfl, SqT.of ht1, fun e => ?_, fun ne t2 n2 => ?_⟩
    · have G := go t1 ws H5 hB5 KB.refl ht1 (by omega) (by omega)
      refine ⟨_, rfl, p, _, rfl, .inr (SqT.of (y5 _ _ hp pb pl)), fun t3 n3 => ⟨_, rfl, p, _, 0, .str (r.getD 0 ""), rfl, rfl, SqT.of (by rw [upd_ne (ne_of_none (y5 _ _ hp pb pl) n3)]; exact y5 _ _ hp pb pl), atI_nat r0, by show 7 ≤ sizeLine; decide, fun qq nq => ⟨_, rfl, _, rfl, b, l, 7, rfl, box_new (box_new hB5 n3) nq, by decide, by decide, fun z H9 z0 z1 hB9 x9 => ?_⟩⟩⟩
      obtain ⟨v, ev, hq, kv⟩ := G t3 _ qq _ n3 rfl nq rfl z H9 z0 z1 hB9 x9
      exact ⟨qq, _, _, v, rfl, rfl, SqL.of hq, ev, kv⟩
    · have lc : (cutV ws none (some (7 + ((un : Nat) : Int)))).length = min (7 + un) (7 * r.length) := by rw [show (7 : Int) + ((un : Nat) : Int) = ((7 + un : Nat) : Int) by omega, cutT_hi, List.length_take, l7]
      generalize cutV ws none (some (7 + ((un : Nat) : Int))) = us at lc ⊢
      have hp5 := y5 _ _ hp pb pl
      have hp6 : upd H5 t2 (.tup us) p = some (.tup (sV r)) := by rw [upd_ne (ne_of_none hp5 n2)]; exact hp5
      have B6 := box_new (o := .tup us) hB5 n2
      have G := go t2 us (upd H5 t2 (.tup us)) B6 (kb_new n2) upd_same (by omega) (by omega)
      generalize upd H5 t2 (.tup us) = H6 at hp6 B6 G ⊢
      refine ⟨_, rfl, p, _, rfl, .inr (SqT.of hp6), fun t3 n3 => ⟨_, rfl, p, _, 0, .str (r.getD 0 ""), rfl, rfl, SqT.of (by rw [upd_ne (ne_of_none hp6 n3)]; exact hp6), atI_nat r0, by show 7 ≤ sizeLine; decide, fun qq nq => ⟨_, rfl, _, rfl, b, l, 7, rfl, box_new (box_new B6 n3) nq, by decide, by decide, fun z H9 z0 z1 hB9 x9 => ?_⟩⟩⟩
      obtain ⟨v, ev, hq, kv⟩ := G t3 _ qq _ n3 rfl nq rfl z H9 z0 z1 hB9 x9
      exact ⟨qq, _, _, v, rfl, rfl, SqL.of hq, ev, kv⟩
end
end TGK

namespace TG
open PySem PySem.Spec PyProof.Rows L2 Gx
section
variable {P : Program} {w : World} {K : PySem.W.Frag} {mg : Str → Option Value} {base : Heap} {k : Nat} {f : Addr} {fd : FuncData} {ps : List Str} {sp : Sp}
/-- a def that never raises, among those that may -/
theorem fnX_of (F : FnOk P w K mg base CX0 k f fd ps sp) : FnOk P w K mg base (L2.CX P w) k f fd ps sp := by
  refine ⟨F.len, fun A outer s H args us vs Q E hr e0 b r h => ?_⟩
  refine codeAny_mono (F.run A outer s H args us vs Q E hr e0 b r h) fun r' s' hq => ?_
  cases r' with
  | error er => exact False.elim hq
  | ok fl =>
    cases fl with
    | ret u => exact hq
    | next => exact hq
    | brk => exact False.elim hq
    | cont => exact False.elim hq
end
end TG

namespace TG
open PySem PySem.Spec PyProof.Rows L2 NdefX GenW Gx Lv
/-! ### a def whose lambdas live on: at its return the cells are told of -/
abbrev TSC := (L2.St → V → Hp → Prop) → L2.St → Hp → Prop
structure PSsC (X : Cx) (st : List Stmt) (t : TSC) : Prop where
  run : ∀ (pins : List (Addr × Obj)) (s : Shared) (σ : L2.St) (H : Hp) (R : L2.St → V → Hp → Prop), Inv X pins σ H s → t R σ H →
    wpAny (model X.prog X.w) X.A (execs st X.env) (fun f s' => ∃ (u : Value) (v : V) (σ' : L2.St) (H' : Hp), f = Flow.ret u ∧ Inv X pins σ' H' s' ∧ RelV v u ∧ R σ' v H') X.xe s
def tSeqC (t : TS) (u : TSC) : TSC := fun R σ H => t { nx := u R, rt := fun _ _ => False } σ H
def tRetC (te : TE) : TSC := fun R σ H => te σ H fun v H1 => R σ v H1
section
variable {X : Cx} {st : Stmt} {rest : List Stmt} {t : TS} {u : TSC} {e : Expr} {te : TE} {pos : Pos}
theorem psc_cons (h1 : PS X st t) (h2 : PSsC X rest u) : PSsC X (st :: rest) (tSeqC t u) := by
  refine ⟨fun pins s σ H R I h => ?_⟩
  refine wpAny_execs_cons (thn (h1.run pins s σ H _ I h) fun f s1 q => ?_)
  cases f with
  | next =>
    obtain ⟨σ', H', I', q⟩ := q
    exact h2.run pins s1 σ' H' R I' q
  | ret v =>
    obtain ⟨_, _, _, _, _, q⟩ := q
    exact q.elim
  | brk =>
    obtain ⟨_, _, _, q⟩ := q
    exact q.elim
  | cont =>
    obtain ⟨_, _, _, q⟩ := q
    exact q.elim
theorem psc_ret (he : PE X e te) : PSsC X [.Return (some e) pos] (tRetC te) := by
  refine ⟨fun pins s σ H R I h => ?_⟩
  refine wpAny_execs_cons (thn (Q := fun f s' => ∃ (u : Value) (v : V) (σ' : L2.St) (H' : Hp), f = Flow.ret u ∧ Inv X pins σ' H' s' ∧ RelV v u ∧ R σ' v H') (wpAny_Return_some (thn (he.run pins s σ H _ I h) fun v s1 ⟨x, H1, I1, r1, q1⟩ => ⟨v, x, σ, H1, rfl, I1, r1, q1⟩)) fun f s1 q => ?_)
  obtain ⟨u, v, σ', H', rfl, q⟩ := q
  exact ⟨u, v, σ', H', rfl, q⟩
end
theorem PSsC.nox {X : Cx} {st : List Stmt} {t : TSC} (h : PSsC X.nox st t) : PSsC X st t := ⟨fun pins s σ H R I hw =>
  wpAny_mono (h.run pins s σ H R (I.wish _) hw) (fun f s' ⟨u, v, σ', H', e, J, r, q⟩ => ⟨u, v, σ', H', e, J.unwish, r, q⟩) fun _ _ z => False.elim z⟩
theorem fun_okC {P : Program} {w : World} {K : PySem.W.Frag} {mg : Str → Option Value} {base : Heap} {x qual : Str} {st : Stmt} {f c : Addr} {fd : FuncData} {N ps : List Str} {k : Nat} {sp : Sp} (names : List Str) (F : Fun K x qual st f fd) (hc : fd.code = .ref c) (S : FnScope N ps (defScope st)) (len : ∀ vs H Q E, sp vs H Q E → vs.length = ps.length)
    (hnm : ∀ y ∈ names, (defScope st).names.lookup y = some .cell)
    (hbody : ∀ (A : Around) (outer : List Env) (s : Shared) (H : Hp) (vs : List V) (Q : VK) (E : XK), Room k (A.deeper (envOfC qual (defScope st) s.heap.objs.size f (.ref c))) → sp vs H Q E →
      ∃ t, PSsC (cxOf CX0 P w K mg base N qual (defScope st) f (.ref c) A outer s H E).nox (defBody st) t ∧
        t (fun σ v H' => ∀ cl, ToldC (cxOf CX0 P w K mg base N qual (defScope st) f (.ref c) A outer s H E).nox.env.cells N names σ cl → (∀ c o, cl.lookup c = some o → H' c = none) → Q v (addC H' cl)) (start N vs) H) : FnOk P w K mg base CX0 (k + 1) f fd ps sp := by
  obtain ⟨oc, od, kV, doc, pm, an, cdv, ct, osl, rfl, lk, hcd⟩ := F.ex
  have e : cdv = .ref c := hc
  subst e
  refine ⟨len, fun A outer s H args us vs Q E hr e0 hb r hsp => ?_⟩
  have hl := len _ _ _ _ hsp
  have KX : K.In s.heap := e0.mod.kin.keeps fun b o e => (e0.bs b o e).1
  have lim : s.heap.NoLimit := e0.mod.nolimit.keeps fun b o e => (e0.bs b o e).1
  have hkind : ∀ y ∈ ps.zip us, (defScope st).names.lookup y.1 = some .local ∨ ((defScope st).names.lookup y.1 = some .cell ∧ ((cellsFrom (s.heap.objs.size + 1) (defScope st).names []).lookup y.1).isSome = true) := fun ⟨n, v⟩ hy => by
    rcases S.par n (List.of_mem_zip hy).1 with q | q
    · exact .inl q
    · exact .inr ⟨q, PySem.W.cellsFrom_some _ _ _ (.inl q)⟩
  refine codeAny_call_function hr.depth (KX _ _ lk) rfl S.co S.gen rfl (PySem.W.codeRec_of KX hcd) (hb _ _ _ _ ?_)
  refine wpAny_newFunctionEnv_cells S.kind hkind fun env he s1 x => ?_
  subst he
  refine ⟨lim.keeps x.toInCall.keep, codeAny_func ?_⟩
  obtain ⟨t, ht, hq⟩ := hbody A outer s H vs Q E (hr.deeper _) hsp
  have I : Inv (cxOf CX0 P w K mg base N qual (defScope st) f (.ref c) A outer s H E) [] (start N vs) H s1 := inv_start S hr.hd e0 hl r x
  refine wpAny_mono (ht.nox.run [] s1 (start N vs) H _ I hq) (fun fl s' hs => ?_) fun e s' hs => hs
  obtain ⟨u, v, σ', H', rfl, J, rv, q⟩ := hs
  have has : ∀ y ∈ names, ∃ c' v, (cxOf CX0 P w K mg base N qual (defScope st) f (.ref c) A outer s H E).env.cells.lookup y = some c' ∧ s'.heap.IsCell c' v := fun y hy => by
    obtain ⟨c', hc'⟩ := J.ok.has y (.inl (hnm y hy))
    obtain ⟨v, hv⟩ := J.cell y c' hc'
    exact ⟨c', v, hc', hv⟩
  obtain ⟨cl, c1, c2⟩ := cells_list names has
  have un : ∀ a o, cl.lookup a = some o → H' a = none := fun a o e => by
    obtain ⟨_, y, _, hc'⟩ := c1 a o e
    exact J.freeC y a hc'
  have ge : ∀ a o, cl.lookup a = some o → s.heap.get? a = none := fun a o e => by
    obtain ⟨_, y, hy, hc'⟩ := c1 a o e
    have g := J.ok.cab y a rfl hc'
    cases z : s.heap.get? a with
    | none => rfl
    | some u => exact absurd (Nat.lt_of_lt_of_le (Heap.lt_size z) g) (Nat.lt_irrefl _)
  have T : ToldC (cxOf CX0 P w K mg base N qual (defScope st) f (.ref c) A outer s H E).nox.env.cells N names σ' cl := by
    refine ⟨fun y hy => ?_, fun y hy c' o hc' ho i v hN hs => ?_, J.ok.inj⟩
    · obtain ⟨c', hc'⟩ := J.ok.has y (.inl (hnm y hy))
      obtain ⟨v, o2, q1, q2⟩ := J.cell y c' hc'
      obtain ⟨o, ho⟩ := c2 y hy c' hc'
      have z := (c1 c' o ho).1
      rw [q1] at z
      cases z
      exact ⟨c', _, v, hc', ho, q2⟩
    · obtain ⟨m, hn, loc⟩ := J.loc
      obtain ⟨u, ru, lk⟩ := loc i y v hN hs (.inr (.inl (hnm y hy)))
      rcases lk with ⟨z, _⟩ | ⟨_, c2', hc2', o2, q1, q2⟩
      · have z : (defScope st).names.lookup y = some .local := z
        rw [hnm y hy] at z; cases z
      · have hc3 : (cxOf CX0 P w K mg base N qual (defScope st) f (.ref c) A outer s H E).env.cells.lookup y = some c' := hc'
        rw [hc3] at hc2'
        cases hc2'
        have z := (c1 c' o ho).1
        rw [q1] at z
        cases z
        exact ⟨u, q2, ru⟩
  have b0 := J.base
  refine ⟨v, addC H' cl, J.os, J.bare, ⟨b0.keep, b0.slot, fun b o hb nb hx => ?_, b0.there, fun b xs hb => ?_, fun b o u hb => ?_, fun b ps hb => ?_⟩, hok_add J.hok fun a o e => ⟨un a o e, (c1 a o e).1⟩, rv, q cl T un⟩
  · cases r : cl.lookup b with
    | some v =>
      have := ge b v r
      rw [hb] at this
      cases this
    | none => rw [addC_out r]; exact b0.free b o hb nb hx
  · have h := b0.tups b xs hb
    cases r : cl.lookup b with
    | some v => rw [un b v r] at h; cases h
    | none => rw [addC_out r]; exact h
  · have h := b0.frzs b o u hb
    cases r : cl.lookup b with
    | some v => rw [un b v r] at h; cases h
    | none => rw [addC_out r]; exact h
  · obtain ⟨more, h⟩ := b0.tbls b ps hb
    cases r : cl.lookup b with
    | some v => rw [un b v r] at h; cases h
    | none => exact ⟨more, by rw [addC_out r]; exact h⟩
end TG

namespace L2
open PySem PySem.Spec PyProof.Rows
/-! ### a list comprehension whose element may raise -/
theorem funFrames_but {B h h' : Heap} {C : Addr} (k : ∀ b o, b ≠ C → h.get? b = some o → h'.get? b = some o) : ∀ {l : List Env}, h.FunFrames B l → (∀ b ∈ frs l, b ≠ C) → h'.FunFrames B l
  | [], _, _ => trivial
  | env :: l, x, hc => by
    obtain ⟨hk, ⟨L, o, hf, hn, ho, hd⟩, hr⟩ := x
    exact ⟨hk, ⟨L, o, hf, hn, k L o (hc L (List.mem_filterMap.mpr ⟨env, List.mem_cons_self, hf⟩)) ho, hd⟩, funFrames_but k hr fun b hb => by
      obtain ⟨e, he, q⟩ := List.mem_filterMap.mp hb
      exact hc b (List.mem_filterMap.mpr ⟨e, List.mem_cons_of_mem _ he, q⟩)⟩
section
variable {X : Cx}
theorem blk_fails {pins pB : List (Addr × Obj)} {σ σB : St} {H3 H : Hp} {s3 s : Shared} {scope : Scope} {ce : Env} {fp : List Addr} {E : XK} {W : WX}
    (hs : X.stack = X.env :: X.outer) (hf : X.env.frame = some X.env.locals) (cF : ce.frame = X.env.frame) (tk : Takes X W) (hW : ∀ cls d σ H, E cls d H → W cls d σ H)
    (I3 : Inv X pins σ H3 s3) (f3 : ∀ b ∈ fp, FpOk X pins H3 b) (fC : s3.heap.objs.size ≤ ce.locals) (I : Inv (X.blk s3 H3 scope ce fp) pB σB H s) {e : Value} {s' : Shared}
    (c : CX X.prog X.w X.stack H s E e s') : notedBy (model X.prog X.w) X.A ce (CompFails (model X.prog X.w) X.A X.xe ce) e s' := by
  obtain ⟨a, B, H', cls, d, rfl, fl, hok, ub, na, os, ag, hE⟩ := c
  obtain ⟨m, ⟨oC, es, ep, hoC, r⟩, _⟩ := I.loc
  have hoC : s.heap.get? ce.locals = _ := hoC
  have nH : H ce.locals = none := I.free
  have lt3 : ∀ b o, s3.heap.get? b = some o → b ≠ ce.locals := fun b o e => Nat.ne_of_lt (Nat.lt_of_lt_of_le (Heap.lt_size e) fC)
  have fr3 : ∀ b ∈ frs X.stack, b ≠ ce.locals := fun b hb => by
    obtain ⟨_, o, e, _⟩ := I3.stack.mem hb
    exact lt3 b o e
  have nF : ce.locals ∉ frs X.stack := fun z => fr3 _ z rfl
  have bC := ub.keep _ _ hoC nH nF
  have nC' := ub.free _ _ hoC nH
  show wpAny _ _ (noteFrame (.ref a) ce) (fun _ s'' => CompFails (model X.prog X.w) X.A X.xe ce (.ref a) s'') (CompFails (model X.prog X.w) X.A X.xe ce) s'
  have eN : noteFrame (.ref a) ce = noteFrame (.ref a) X.env := by
    unfold noteFrame PySem.frameOf
    rw [cF]
  rw [eN]
  have hfr : X.A.frames = some (X.env :: X.outer) := by rw [I3.ok.frames, hs]
  rw [hs] at fl
  refine HandSPX.looks_onZ Zc.steady hfr hf fl fun h1 hh up => ?_
  obtain ⟨k1, k2, k3, oe, vs, T, oT, ts, he, hz, hd, h1', hnT, hTe, hT, hdT, h3'⟩ := hh
  refine ⟨m, ⟨_, es, ep, k1 _ _ bC, r⟩, fun h2 m2 hn2 sb => ?_⟩
  obtain ⟨B2, g1, g2⟩ := restrict B fun b => decide (b ≠ ce.locals)
  have g1 : ∀ b, b ≠ ce.locals → B2.get? b = B.get? b := fun b hb => g1 b (decide_eq_true hb)
  have gB : ∀ b o, B2.get? b = some o → b ≠ ce.locals ∧ B.get? b = some o := fun b o e => by
    by_cases hb : b = ce.locals
    · rw [hb, g2 _ (by simp)] at e; cases e
    · exact ⟨hb, by rw [← g1 b hb]; exact e⟩
  have kp : ∀ b o, b ≠ ce.locals → h1.get? b = some o → h2.get? b = some o := fun b o hb e => (sb.2 b hb).trans e
  have aC : a ≠ ce.locals := fun z => by rw [z, bC] at k2; cases k2
  have tC : T ≠ ce.locals := fun z => by rw [z, bC] at hnT; cases hnT
  have k3 : h1.FunFrames B X.stack := by rw [hs]; exact k3
  have fB : ∀ b ∈ frs X.stack, B.get? b = none := fun b hb => (k3.mem hb).1
  have k32 : h2.FunFrames B2 X.stack := funFrames_none (funFrames_but kp k3 fr3) fun b hb => by rw [g1 b (fr3 b hb)]; exact fB b hb
  have held2 : HandSPX.HeldZ B2 X.stack a (Zc cls d) X.env.locals h2 := ⟨fun b o e => kp b o (gB b o e).1 (k1 _ _ (gB b o e).2), by rw [g1 a aC]; exact k2, k32,
    oe, vs, T, oT, ts, kp _ _ aC he, hz, hd, h1', by rw [g1 T tC]; exact hnT, hTe, kp _ _ tC hT, hdT, h3'⟩
  have fin : wpAny (model X.prog X.w) X.A (setFlight (.ref a) ce.frame) (fun _ s4 => wpAny (model X.prog X.w) X.A (throw (.ref a) : Sem Value) (fun _ _ => False) X.xe s4) X.xe { s' with heap := h2 } := by
    rw [cF, hf]
    refine HandSPX.setFlight_onZ held2 fun h3 hh3 up3 => wpAny_throw ?_
    have nf : ∀ b ∈ frs X.stack, ∀ o, s3.heap.get? b = some o → ∃ sl, h3.get? b = some { o with slots := sl } := fun b hb o e => by
      obtain ⟨_, o', e', hnf⟩ := I3.stack.mem hb
      rw [e] at e'; cases e'
      obtain ⟨sl, e1⟩ := I.base.slot b o e (I3.stkFree b hb) hb fun z => by
        have q := (f3 b z).2.1
        rcases List.mem_cons.mp (I3.stkSub b hb) with y | y
        · exact q y
        · exact (f3 b z).2.2.1 y
      obtain ⟨sl2, e2⟩ := ub.slot b _ e1 hb
      obtain ⟨sl3, e3⟩ := up b _ e2 hnf
      obtain ⟨sl4, e4⟩ := up3 b _ (kp b _ (fr3 b hb) e3) hnf
      exact ⟨sl4, e4⟩
    obtain ⟨G, q1, q2⟩ := restrict h3 fun b => (B2.get? b).isSome || decide (b ∈ frs X.stack)
    have st : B2.StaysIn h3 := hh3.1
    have gG : ∀ b o, B2.get? b = some o → G.get? b = some o := fun b o e => by
      rw [q1 b (by simp [e])]
      exact st b o e
    have gF : ∀ b, b ∈ frs X.stack → G.get? b = h3.get? b := fun b hb => q1 b (by simp [hb])
    have og : ∀ b o, G.get? b = some o → h3.get? b = some o ∧ ((B2.get? b).isSome = true ∨ b ∈ frs X.stack) := fun b o e => by
      cases q : ((B2.get? b).isSome || decide (b ∈ frs X.stack)) with
      | false => rw [q2 b q] at e; cases e
      | true =>
        rw [q1 b q] at e
        exact ⟨e, by simpa [Bool.or_eq_true] using q⟩
    have bG : ∀ b o, b ≠ ce.locals → B.get? b = some o → G.get? b = some o := fun b o hb e => gG b o (by rw [g1 b hb]; exact e)
    refine tk _ _ ⟨a, B2, { s' with heap := G }, pins, σ, H', cls, d, rfl, ?_, fun b o e hb => ?_, Heap.UpToSlots.of_keeps fun b o e => (og b o e).1, .inr (.inr hh3), na, rfl, ag, hW _ _ _ _ hE⟩
    · refine I3.call' (ch := fp) (os.trans I.os) ⟨fun b o e n hb hc => ?_, fun b o e n hb hc => ?_, fun b o e n hc => ?_, fun b o e hc => ?_, fun b xs e => ub.tups _ _ (I.base.tups _ _ e), fun b o u e => ub.frzs _ _ _ (I.base.frzs _ _ _ e), fun b ps e => ?_⟩ (fun b u e => ?_) ag fun b hb => ⟨(f3 b hb).2.2.2.1, (f3 b hb).2.1, (f3 b hb).2.2.2.2.1, (f3 b hb).2.2.2.2.2⟩
      · exact bG b o (lt3 b o e) (ub.keep _ _ (I.base.keep b o e n hb hc) (I.base.free b o e n hc) hb)
      · obtain ⟨sl, z⟩ := nf b hb o e
        exact ⟨sl, by rw [gF b hb]; exact z⟩
      · obtain ⟨sl, z⟩ := I.base.any e n hc
        exact ub.free _ _ z (I.base.free b o e n hc)
      · by_cases hb : b ∈ frs X.stack
        · obtain ⟨sl, z⟩ := nf b hb o e
          exact ⟨_, by rw [gF b hb]; exact z⟩
        · obtain ⟨o', z⟩ := I.base.there b o e hc
          obtain ⟨o2, z2⟩ := ub.there b o' z hb
          exact ⟨o2, bG b o2 (lt3 b o e) z2⟩
      · obtain ⟨m1, z1⟩ := I.base.tbls _ _ e
        obtain ⟨m2', z2⟩ := ub.tbls _ _ z1
        exact ⟨m1 ++ m2', by rw [z2, Array.append_assoc]⟩
      · refine (hok b u e).stay (fun c v hc q => bG c v (fun z => ?_) q) (fun _ q => q) fun _ _ q => q
        rcases hc with hc | hc
        · rw [← hc, z, nC'] at e; cases e
        · rw [z, nC'] at hc; cases hc
    · obtain ⟨e', h⟩ := og b o e
      rcases h with h | h
      · obtain ⟨o', q⟩ := Option.isSome_iff_exists.mp h
        have z := st b o' q
        rw [e'] at z; cases z
        exact q
      · exact absurd h hb
  unfold PySem.passOn
  refine wpAny_bind (wpAny_field (kp _ _ aC he) hd h1' ?_)
  rw [if_neg (show ¬ ((Value.ref T == Value.none) = true) from by simp)]
  first
    | exact wpAny_bind (wpAny_pure (wpAny_bind fin))
    | exact wpAny_bind fin
/-- the block of a comprehension whose element may raise -/
abbrev Cx.blkX (X : Cx) (s : Shared) (H : Hp) (scope : Scope) (ce : Env) (fp : List Addr) : Cx := (X.blk s H scope ce fp).wish (notedBy (model X.prog X.w) X.A ce (CompFails (model X.prog X.w) X.A X.xe ce))
theorem lcX_core {pins : List (Addr × Obj)} {s : Shared} {σ : St} {H : Hp} {Q : VK} {elt tg iter : Expr} {ifs : List Expr} {scope : Scope} {own : List (Str × Nat)} {pos pos' : Pos} {wi : TI} {g : TG} {tt : TT} {te : TE} {use : Option (Value → Sem Unit)} {Qf : Value → Shared → Prop} {E : XK}
    (hc : X.calm = true) (hN : X.N.Nodup) (hs0 : X.stack = X.env :: X.outer) (hf0 : X.env.frame = some X.env.locals) (tk : Takes X (fun cls d _ H => E cls d H)) (I : Inv X pins σ H s) (hi : PI X tg iter wi) (ok : BlkOk X.N X.env.scope scope own)
    (hg : ∀ (s : Shared) (H : Hp) (C : Addr) (cl : List (Str × Addr)) (fp : List Addr), PG (X.blk s H scope (compEnvC scope cl C X.env) fp) tg g) (ht : ∀ (s : Shared) (H : Hp) (C : Addr) (cl : List (Str × Addr)) (fp : List Addr), PTs (X.blk s H scope (compEnvC scope cl C X.env) fp) ifs tt)
    (he : ∀ (s : Shared) (H : Hp) (C : Addr) (cl : List (Str × Addr)) (fp : List Addr), (∀ σB, PassesAt (L2.CX X.prog X.w) (X.blkX s H scope (compEnvC scope cl C X.env) fp) σB E) → PE (X.blkX s H scope (compEnvC scope cl C X.env) fp) elt te) (hs : ∀ x, foldedSetIterable iter X.env x = pure x)
    (h : tLc wi g tt te (own.map (·.2)) σ H Q)
    (hRR : ∀ D (ce : Env) s' m H', Inv X pins σ H' s' → Q (.ref D) H' → s'.heap.Ns ce.locals m → FpOk X pins H' ce.locals → compEnds (model X.prog X.w) X.A X.xe use Qf (.ref D) ce (.ok .next) s') :
    wpAny (model X.prog X.w) X.A (comprehension (.ListComp elt [⟨tg, iter, ifs, 0⟩] scope pos) scope X.env pos' (newList []) false (eval iter X.env) use) Qf X.xe s := by
  have hfree : ∀ y ∈ scope.names, y.2 = .free → ∃ c, X.env.cells.lookup y.1 = some c := fun y hy e =>
    I.ok.has _ (ok.free y hy e)
  refine comprehension_at (use := use) rfl hs (closure_ok hfree) ok.kind (fun y hy e => by rw [ok.uniq y hy, e])
    (thn (hi.run pins s σ H _ I h) fun xv s1 hx => thn hx fun itv s2 h2 => ?_)
  obtain ⟨it, fp, tn, J, H2, e, I2, T, st2, f2, q⟩ := h2
  subst e
  refine wpAny_newObj_type (newEnv_comp ?_) (by show 0 ≤ sizeLine; decide)
  generalize hD : s2.heap.objs.size = D
  have hDn : H2 D = none := I2.hok.fresh (Nat.le_of_eq hD)
  obtain ⟨W, ⟨m0, w0⟩, turn⟩ := q D hDn
  generalize hs3 : ({ s2 with heap := s2.heap.push { cls := .type "list", data := .seq ([] : List Value).toArray } } : Shared) = s3
  have h3 : s3.heap = s2.heap.push { cls := .type "list", data := .seq ([] : List Value).toArray } := by rw [← hs3]
  have I3 : Inv X pins σ (upd H2 D (.lst [])) s3 := by
    rw [← hs3]
    refine I2.laid (t' := s2.toks) (fun b o e => Heap.get?_push_of_some _ e) (Nat.le_of_eq hD) ⟨Nat.zero_le _, [], 0, .nil, ?_⟩
    rw [← hD]
    exact Heap.get?_push_size _ rfl
  have f3 : ∀ b ∈ fp, FpOk X pins (upd H2 D (.lst [])) b ∧ b < s3.heap.objs.size := fun b hb => by
    obtain ⟨o, e, _⟩ := T.obj _ _ st2 b hb
    have hlt := Heap.lt_size e
    refine ⟨⟨?_, (f2 b hb).2⟩, by rw [h3, Heap.size_push]; exact Nat.lt_succ_of_lt hlt⟩
    rw [upd_ne (by rw [← hD]; exact Nat.ne_of_lt hlt)]
    exact (f2 b hb).1
  have st3 : tn 0 s3.heap := T.keep _ _ _ st2 fun b _ o e => by rw [h3]; exact Heap.get?_push_of_some _ e
  have I4 := block_start I3 ok hN f3
  generalize hcl : cellsFrom (s3.heap.objs.size + 1) scope.names (cloFrom X.env.cells scope.names []) = cl at I4
  have pg := hg s3 (upd H2 D (.lst [])) s3.heap.objs.size cl fp
  have pt := ht s3 (upd H2 D (.lst [])) s3.heap.objs.size cl fp
  have pe := he s3 (upd H2 D (.lst [])) s3.heap.objs.size cl fp
  show codeAny _ _ (.compStart (.ListComp elt [⟨tg, iter, ifs, 0⟩] scope pos) 0 (.ref it) (.ref D) (compEnvC scope cl s3.heap.objs.size X.env)) (compEnds (model X.prog X.w) X.A X.xe use Qf (.ref D) (compEnvC scope cl s3.heap.objs.size X.env)) { s3 with heap := pushCells (s3.heap.push { cls := .type "dict", data := .dict #[] }) scope.names }
  have nfp : ∀ b ∈ fp, (upd H2 D (.lst [])) b = none := fun b hb => (f3 b hb).1.1
  have cF : (compEnvC scope cl s3.heap.objs.size X.env).frame = X.env.frame := rfl
  have cL : (compEnvC scope cl s3.heap.objs.size X.env).locals = s3.heap.objs.size := rfl
  generalize compEnvC scope cl s3.heap.objs.size X.env = ce at I4 pg pt pe cF cL ⊢
  generalize upd H2 D (.lst []) = H3 at I3 I4 pg pt pe w0 nfp f3
  have pe := pe fun σB => (fun pB H s e s' I c => blk_fails hs0 hf0 cF tk (fun _ _ _ _ z => z) I3 (fun b hb => (f3 b hb).1) (by rw [cL]; exact Nat.le_refl _) I.unwish c)
  generalize hs4 : ({ s3 with heap := pushCells (s3.heap.push { cls := .type "dict", data := .dict #[] }) scope.names } : Shared) = s4 at I4 ⊢
  have st4 : tn 0 s4.heap := T.keep _ _ _ st3 fun b _ o e => by rw [← hs4]; exact pushCells_keeps _ _ _ _ (Heap.get?_push_of_some _ e)
  have stat : ∀ {σ' : St} {H' : Hp} {s' : Shared}, Inv (X.blk s3 H3 scope ce fp) [] σ' H' s' → (∀ b ∈ fp, H' b = none) → ∀ b ∈ fp, FpOk (X.blk s3 H3 scope ce fp) [] H' b := fun {σ' H' s'} I' hn b hb =>
    ⟨hn b hb, (I'.ok.exf b hb).1, I'.ok.exfs b hb, .inl hb, fun x c e => (I'.ok.exf b hb).2 x c e, fun p hp => absurd (show p ∈ ([] : List (Addr × Obj)) ++ [] from hp) (by simp)⟩
  have loop : codeAny (model X.prog X.w) X.A (.compLoop (.ListComp elt [⟨tg, iter, ifs, 0⟩] scope pos) 0 (.ref it) (.ref D) ce) (compEnds (model X.prog X.w) X.A X.xe use Qf (.ref D) ce) s4 := by
    refine compLoop_any (fun n s' => ∃ i H', Inv (X.blk s3 H3 scope ce fp) [] (wipe σ (own.map (·.2))) H' s' ∧ tn i s'.heap ∧ (∀ b ∈ fp, H' b = none) ∧ W i n H') ?_ m0 ⟨0, H3, I4, st4, nfp, w0⟩
    rintro n s5 ⟨i, H5, I5, st5, n5, w5⟩
    rcases turn i n H5 w5 with ⟨stop, qq⟩ | ⟨go, Nx, hNx, step⟩
    · refine thnF (T.done (X.blk s3 H3 scope ce fp) rfl rfl rfl hc i [] s5 _ H5 (fun _ _ => False) I5 (stat I5 n5) st5 stop) fun r s6 ⟨hr, I6⟩ => ?_
      subst hr
      have I7 : Inv X pins σ H5 s6 := I3.call' (ch := fp) I6.os I6.base I6.hok I6.bare fun b hb => ⟨(f3 b hb).1.2.2.2.1, (f3 b hb).1.2.1, (f3 b hb).1.2.2.2.2.1, (f3 b hb).1.2.2.2.2.2⟩
      have nC : H5 ce.locals = none := I6.free
      obtain ⟨m, hn, _⟩ := I6.loc
      exact hRR D ce s6 m H5 I7 qq hn (I3.fpOk (by rw [cL]; exact Nat.le_refl _) nC)
    · refine thnF (T.item (X.blk s3 H3 scope ce fp) rfl rfl rfl hc i [] s5 _ H5 (fun _ _ => False) I5 (stat I5 n5) st5 go) fun r s6 ⟨u, hr, h6⟩ => ?_
      subst hr
      refine thnF h6 fun _ s7 ⟨x, H7, I7, r7, y7, st7, n7⟩ => ?_
      have I7' := I7.pinned (stat I7 n7) (T.obj _ _ st7)
      refine thnF (pg.run _ s7 _ H7 x u _ I7' r7 (step x H7 y7)) fun _ s8 ⟨σ8, H8, I8, hw8, q8⟩ => ?_
      refine thnF (pt.run _ s8 σ8 H8 _ I8 q8) fun b s9 ⟨H9, I9, q9⟩ => ?_
      have fin : ∀ {s' : Shared} {H' : Hp}, Inv (X.blk s3 H3 scope ce fp) ([] ++ pinsAt fp s7.heap) σ8 H' s' → Nx H' → ∃ m, m < n ∧ ∃ i H', Inv (X.blk s3 H3 scope ce fp) [] (wipe σ (own.map (·.2))) H' s' ∧ tn i s'.heap ∧ (∀ b ∈ fp, H' b = none) ∧ W i m H' := fun {s' H'} I' nx => by
        obtain ⟨m', hm, w'⟩ := hNx H' nx
        have pin' : ∀ b ∈ fp, ∀ o, s7.heap.get? b = some o → s'.heap.get? b = some o ∧ H' b = none := fun b hb o e =>
          let z := I'.pin (b, o) (List.mem_append_right _ (List.mem_append_right _ (mem_pinsAt hb e)))
          ⟨z.1, z.2.1⟩
        refine ⟨m', hm, i + 1, H', (I'.unpinned (pins := [])).weak (by rw [← hw8, wipe_length]) (fun j v e => ?_), T.keep _ _ _ st7 fun b hb o e => (pin' b hb o e).1, fun b hb => ?_, w'⟩
        · rw [← hw8] at e
          exact (wipe_some e).1
        · obtain ⟨o, e, _⟩ := T.obj _ _ st7 b hb
          exact (pin' b hb o e).2
      cases b with
      | false =>
        simp only [Bool.false_eq_true, if_false] at q9 ⊢
        exact fin I9 q9
      | true =>
        simp only [if_true] at q9 ⊢
        refine thn (pe.run _ s9 σ8 H9 _ (I9.wish _) q9) fun z s10 ⟨yv, H10, I10, r10, acc, hD10, hz10, nx⟩ => ?_
        exact app_ok (X := X.blk s3 H3 scope ce fp) I10.unwish hD10 hz10 r10 fun s11 I11 => fin I11 nx
  exact codeAny_compStart_list loop (T.self X.A 0 _ _ _ st4 loop)
/-- name = [..] on one line, the name a local -/
theorem ps_setLcX {i : Nat} {y : Str} {py : Pos} {elt tg iter : Expr} {ifs : List Expr} {scope : Scope} {own : List (Str × Nat)} {pos spos : Pos} {wi : TI} {g : TG} {tt : TT} {te : TE} {E : XK} (hc : X.calm = true) (hN : X.N.Nodup) (hs0 : X.stack = X.env :: X.outer) (hf0 : X.env.frame = some X.env.locals) (tk : Takes X (fun cls d _ H => E cls d H))
    (hy : X.N[i]? = some y) (hyl : X.env.scope.names.lookup y = some .local)
    (hsw : swapsWith (.ListComp elt [⟨tg, iter, ifs, 0⟩] scope pos) (some (.Name y py)) spos.line X.env = pure true) (hi : PI X tg iter wi) (ok : BlkOk X.N X.env.scope scope own)
    (hg : ∀ (s : Shared) (H : Hp) (C : Addr) (cl : List (Str × Addr)) (fp : List Addr), PG (X.blk s H scope (compEnvC scope cl C X.env) fp) tg g) (ht : ∀ (s : Shared) (H : Hp) (C : Addr) (cl : List (Str × Addr)) (fp : List Addr), PTs (X.blk s H scope (compEnvC scope cl C X.env) fp) ifs tt)
    (he : ∀ (s : Shared) (H : Hp) (C : Addr) (cl : List (Str × Addr)) (fp : List Addr), (∀ σB, PassesAt (L2.CX X.prog X.w) (X.blkX s H scope (compEnvC scope cl C X.env) fp) σB E) → PE (X.blkX s H scope (compEnvC scope cl C X.env) fp) elt te) (hs : ∀ x, foldedSetIterable iter X.env x = pure x := by intro _; rfl) :
    PS X (.Assign [.Name y py] (.ListComp elt [⟨tg, iter, ifs, 0⟩] scope pos) spos) (tAsg (tLc wi g tt te (own.map (·.2))) (gName i)) := by
  refine ⟨fun pins s σ H D I h => ?_⟩
  rw [exec_Assign_Name_used _ _ _ _ hsw]
  refine wpAny_bind (wpAny_standAt (wpAny_bind ?_))
  show wpAny _ X.A (do let _ ← comprehension (.ListComp elt [⟨tg, iter, ifs, 0⟩] scope pos) scope X.env (firstIterPos [⟨tg, iter, ifs, 0⟩] pos) (newList []) false (eval iter X.env) (some (assign (.Name y py) X.env))) _ _ s
  have h : tLc wi g tt te (own.map (·.2)) σ H (fun x H1 => gName i x σ H1 D.nx) := h
  refine wpAny_bind (thn (lcX_core (Qf := fun _ s' => SP X pins D .next s') hc hN hs0 hf0 tk I hi ok hg ht he hs h fun L ce s' m H' I' q hn f => ?_) fun _ s' hq => wpAny_pure (wpAny_pure hq))
  show wpAny _ _ (assign (.Name y py) X.env (.ref L)) _ _ _
  refine wpAny_assign_Name (store_ok2 (v := V.ref L) I' hN hy (.inl hyl) rfl (fun s2 I2 ⟨a, sb, ha⟩ => ?_) (.inr hyl))
  obtain ⟨f0, f1, f2, f3, f4, f5⟩ := f
  have haC : ce.locals ≠ a := by
    rcases ha with z | z
    · rw [z]; exact f1
    · exact fun e => f4 y a z e.symm
  refine ⟨m, hn.sameBut sb haC, fun h3 sb3 => ?_⟩
  exact ⟨_, H', I2.turned (t' := s2.toks) (fun b o hb e => (sb3.2 b hb).trans e) f0 f1 f3 f4 f5, q⟩
end
end L2

namespace TG
open PySem PySem.Spec PyProof.Rows L2 Gx
/-! ### texts of pages -/
abbrev tabS : Str := "\t"
abbrev lineS : Str := "\n"
def rowT (r : List Str) : Str := Txt.join tabS r
def pageT (rows : List (List Str)) : Str := Txt.join lineS (rows.map rowT)
theorem cl_tabS : cl tabS = [9] := by decide +kernel
theorem cl_lineS : cl lineS = [10] := by decide +kernel
theorem cl_joinL (y : Str) (ps : List Str) : cl (Txt.join y ps) = TL.joinL (cl y) (ps.map cl) := by
  rw [TL.join_eq]
  exact TL.tl_join y ps
theorem joinL_mem (S : List Nat) : ∀ (ps : List (List Nat)) (c : Nat), c ∈ TL.joinL S ps → c ∈ S ∨ ∃ p ∈ ps, c ∈ p
  | [], c, h => by cases h
  | [p], c, h => .inr ⟨p, by simp, h⟩
  | p :: q :: r, c, h => by
    have h : c ∈ p ++ (S ++ TL.joinL S (q :: r)) := h
    rcases List.mem_append.mp h with h | h
    · exact .inr ⟨p, by simp, h⟩
    rcases List.mem_append.mp h with h | h
    · exact .inl h
    rcases joinL_mem S (q :: r) c h with h | ⟨x, hx, hc⟩
    · exact .inl h
    · exact .inr ⟨x, by simp at hx ⊢; exact .inr hx, hc⟩
theorem joinL_len (S : List Nat) (m : Nat) : ∀ (ps : List (List Nat)), (∀ p ∈ ps, p.length ≤ m) → (TL.joinL S ps).length ≤ ps.length * (m + S.length)
  | [], _ => Nat.zero_le _
  | [p], h => by
    have := h p (by simp)
    show p.length ≤ 1 * (m + S.length)
    omega
  | p :: q :: r, h => by
    have h1 := h p (by simp)
    have h2 := joinL_len S m (q :: r) fun x hx => h x (by simp at hx ⊢; exact .inr hx)
    show (p ++ (S ++ TL.joinL S (q :: r))).length ≤ ((q :: r).length + 1) * (m + S.length)
    rw [List.length_append, List.length_append, Nat.add_mul]
    omega
theorem rowT_sg {r : List Str} (h : RowOk r) : ∀ c ∈ cl (rowT r), c = 9 ∨ SgOk c := by
  intro c hc
  unfold rowT at hc
  rw [cl_joinL, cl_tabS] at hc
  rcases joinL_mem _ _ _ hc with h1 | ⟨p, hp, h1⟩
  · exact .inl (by simpa using h1)
  · obtain ⟨z, hz, rfl⟩ := List.mem_map.mp hp
    exact .inr ((h.3 z hz).2 c h1)
theorem rowT_len {r : List Str} (h : RowOk r) : (rowT r).length ≤ 66 := by
  rw [len_cl]
  unfold rowT
  rw [cl_joinL]
  have := joinL_len (cl tabS) 10 (r.map cl) fun p hp => by
    obtain ⟨z, hz, rfl⟩ := List.mem_map.mp hp
    have := (h.3 z hz).1
    rw [← len_cl]
    exact this
  rw [List.length_map, cl_tabS, show ([9] : List Nat).length = 1 from rfl] at this
  rw [cl_tabS]
  have := h.2
  omega
theorem pageT_len {rows : List (List Str)} (h : PgOk rows) : (pageT rows).length ≤ 2010 := by
  rw [len_cl]
  unfold pageT
  rw [cl_joinL]
  have := joinL_len (cl lineS) 66 ((rows.map rowT).map cl) fun p hp => by
    obtain ⟨z, hz, rfl⟩ := List.mem_map.mp hp
    obtain ⟨r, hr, rfl⟩ := List.mem_map.mp hz
    rw [← len_cl]
    exact rowT_len (h.rows r hr)
  rw [List.length_map, List.length_map, cl_lineS, show ([10] : List Nat).length = 1 from rfl] at this
  rw [cl_lineS]
  have := h.len
  omega
theorem split_row {r : List Str} (h : RowOk r) : Txt.split (rowT r) tabS = r := by
  refine TL.split_join (s := 9) (S := []) cl_tabS (by decide +kernel) ?_ fun p hp q => ?_
  · intro e
    have := h.1
    rw [e] at this
    simp at this
  · have q : 9 ∈ cl p := q
    have := (h.3 p hp).2 9 q
    unfold SgOk at this
    omega
theorem split_page {rows : List (List Str)} (h : PgOk rows) : Txt.split (pageT rows) lineS = rows.map rowT := by
  refine TL.split_join (s := 10) (S := []) cl_lineS (by decide +kernel) ?_ fun p hp q => ?_
  · intro e
    have := h.pos
    have e2 := congrArg List.length e
    rw [List.length_map] at e2
    simp at e2
    rw [e2] at this
    simp at this
  · obtain ⟨r, hr, rfl⟩ := List.mem_map.mp hp
    have q : 10 ∈ cl (rowT r) := q
    rcases rowT_sg (h.rows r hr) 10 q with e | e
    · omega
    · unfold SgOk at e
      omega
theorem kind_min1 (y : Str) (hy : Builtin.Str.strKind y = 1) (x : Str) : ¬ Builtin.Str.strKind x < Builtin.Str.strKind y := by
  rw [hy]
  unfold Builtin.Str.strKind
  split
  · decide
  · split <;> decide
theorem splLenT (S : List Nat) : ∀ (l acc : List Nat) (k : Nat) (p : List Nat), p ∈ TL.spl S k acc l → p.length ≤ acc.length + l.length
  | [], acc, k, p, h => by
    unfold TL.spl at h
    rw [List.mem_singleton] at h
    rw [h]
    exact Nat.le_add_right _ _
  | c :: r, acc, 0, p, h => by
    unfold TL.spl at h
    rw [List.length_cons]
    split at h
    · rcases List.mem_cons.mp h with z | z
      · rw [z]; omega
      · have := splLenT S r [] _ p z
        simp at this
        omega
    · have := splLenT S r _ _ p h
      rw [List.length_append, List.length_singleton] at this
      omega
  | c :: r, acc, k + 1, p, h => by
    unfold TL.spl at h
    have := splLenT S r _ _ p h
    rw [List.length_cons]
    omega
theorem split_clL (z y : Str) (h0 : cl y ≠ []) (hy : Builtin.Str.strKind y = 1) : (Txt.split z y).map cl = TL.spl (cl y) 0 [] (cl z) :=
  TL.split_spl z y h0 (kind_min1 y hy z)
theorem split_pieceL {z y p : Str} (h0 : cl y ≠ []) (hy : Builtin.Str.strKind y = 1) (h : p ∈ Txt.split z y) : p.length ≤ z.length := by
  have h2 : cl p ∈ TL.spl (cl y) 0 [] (cl z) := by rw [← split_clL z y h0 hy]; exact List.mem_map_of_mem h
  have := splLenT (cl y) _ _ _ _ h2
  simpa [cl, Str.length] using this
theorem kind_line : Builtin.Str.strKind lineS = 1 := by decide +kernel
theorem kind_tab : Builtin.Str.strKind tabS = 1 := by decide +kernel
/-- the rows of a text -/
def rowsT (z : Str) : List (List Str) := (Txt.split z lineS).map fun l => Txt.split l tabS
theorem rowsT_page {rows : List (List Str)} (h : PgOk rows) : rowsT (pageT rows) = rows := by
  unfold rowsT
  rw [split_page h, List.map_map]
  conv => rhs; rw [← List.map_id rows]
  apply List.map_congr_left
  intro r hr
  exact split_row (h.rows r hr)
structure RowsAt (ps : List Addr) (rows : List (List Str)) (H : Hp) : Prop where
  len : ps.length = rows.length
  row : ∀ (i : Nat) (q : Addr) (z : List Str), ps[i]? = some q → rows[i]? = some z → H q = some (.tup (sV z))
def rTupT (K : PySem.W.Frag) : List V → Hp → VK → Prop := fun xs H Q => ∃ p ys, xs = [V.ref p] ∧ ((SqL K H p ys ∧ ∀ l, H l = none → Q (.ref l) (upd H l (.tup ys))) ∨ (SqT K H p ys ∧ Q (.ref p) H))
def rJoin (K : PySem.W.Frag) : V → List V → Hp → VK → Prop := fun x xs H Q => ∃ a p, ∃ ys : List Str, x = .str a ∧ xs = [.ref p] ∧ (SqL K H p (ys.map V.str) ∨ SqT K H p (ys.map V.str)) ∧ (ys.map (·.length)).sum + ys.length * a.length ≤ 16777216 ∧ Q (.str (Txt.join a ys)) H
section
variable {P : Program} {w : World} {K : PySem.W.Frag} {mg : Str → Option Value} {base : Heap} {cs : List (Addr × Addr)}
def spRowsOf (cs : List (Addr × Addr)) : Sp := fun vs H Q _ => ∃ z : Str, vs = [.str z] ∧ Tabs cs H ∧ z.length ≤ 1000000 ∧
  ∀ (r : Addr) (ps : List Addr) (H' : Hp), Ex cs H H' → H r = none → H' r = some (.lst (ps.map V.ref)) → RowsAt ps (rowsT z) H' → Q (.ref r) H'
theorem sc_rowsof : FnScope ["text", "line"] ["text"] (defScope s_rows_of) := ⟨rfl, rfl, rfl, by decide +kernel, rfl, by decide +kernel, by decide +kernel⟩
theorem ok_rowsof {f : Addr} {fd : FuncData} (T : Txt mg) (eT : ∃ t, mg "TAB" = some (.str tabS t)) (eL : ∃ t, mg "LINE_END" = some (.str lineS t)) (F : Fun K "rows_of" "rows_of" s_rows_of f fd) : FnOk P w K mg base CX0 1 f fd ["text"] (spRowsOf cs) := by
  refine F.ok sc_rowsof (fun vs H Q E h => ?_) (fun cdv A outer s H vs Q E hr h => ?_)
  · obtain ⟨z, rfl, _⟩ := h
    rfl
  · obtain ⟨z, rfl, hT, hz2, k⟩ := h
    have nd := sc_rowsof.nd
    have szl : (10000000 : Nat) < sizeLine := by decide
    obtain ⟨tt, eT⟩ := eT
    obtain ⟨tl, eL⟩ := eL
    refine ⟨_, pss_one (ps_ret (pe_lc (own := [("line", 1)]) (g := gName 1) (tt := tYes) rfl nd (pi_list (pe_split (pv 0) (pe_glob (v := .str lineS) rfl eL ⟨_, rfl⟩))) (blkOk_by (own := [("line", 1)]) (N := ["text", "line"]) (sc := defScope s_rows_of) (by decide +kernel))
        (fun _ _ _ _ _ => pg_name (i := 1) nd rfl (Or.inl rfl)) (fun _ _ _ _ _ => pts_nil) (fun s1 H1 C1 cl1 fp1 => pe_callTy (T := "tuple") (r := rTupT K) call_tuple_of (by rfl) T.tuple (by decide +kernel) (pa_cons (pe_split (to := tVar 1) (te := tC (.str tabS)) (pv 1) (pe_glob (v := .str tabS) (by rfl) eT ⟨_, rfl⟩)) pa_nil)))), ?_⟩
    have hlen : (Txt.split z lineS).length ≤ 1000002 := Nat.le_trans (PyProof.Rows.split_le z _) (by omega)
    refine ⟨_, rfl, ⟨_, rfl⟩, _, _, rfl, rfl, by decide +kernel, by omega, fun p np => ?_⟩
    have x1 := Ex.laid (o := .lst ((Txt.split z lineS).map V.str)) hT np
    have hp1 : upd H p (.lst ((Txt.split z lineS).map V.str)) p = some (.lst (sV (Txt.split z lineS))) := upd_same
    generalize upd H p (.lst ((Txt.split z lineS).map V.str)) = H1 at x1 hp1 ⊢
    refine ⟨p, rfl, ⟨_, SqL.of hp1⟩, fun D nD => lc_list (xs := sV (Txt.split z lineS)) (fun i H' => Ex cs H1 H' ∧ ∃ ps : List Addr, H' D = some (.lst (ps.map V.ref)) ∧ ps.length = i ∧ ∀ (j : Nat) (q : Addr) (z' : Str), ps[j]? = some q → (Txt.split z lineS)[j]? = some z' → H' q = some (.tup (sV (Txt.split z' tabS))))
      ⟨Ex.laid x1.tab nD, [], upd_same, rfl, fun j q z h => by cases h⟩ (fun i H' _ x => x.1.sqL (SqL.of hp1)) ?_ ?_⟩
    · rintro i v H4 hv ⟨x4, ps, hD4, hpl, hps⟩
      obtain ⟨y, hy, rfl⟩ := get_map hv
      have hi := (List.getElem?_eq_some_iff.mp hy).1
      have hyl := split_pieceL (by rw [cl_lineS]; decide) kind_line (List.mem_of_getElem? hy)
      refine ⟨rfl, _, rfl, ⟨_, rfl⟩, _, _, rfl, rfl, by decide +kernel, by omega, fun u nu => ⟨u, _, rfl, .inl ⟨SqL.of upd_same, fun t nt => ?_⟩⟩⟩
      have x5 := x4.trans (Ex.laid (o := .lst ((Txt.split y tabS).map V.str)) x4.tab nu)
      have x6 := x5.trans (Ex.laid (o := .tup ((Txt.split y tabS).map V.str)) x5.tab nt)
      have x46 := (Ex.laid (o := .lst ((Txt.split y tabS).map V.str)) x4.tab nu).trans (Ex.laid (o := .tup ((Txt.split y tabS).map V.str)) x5.tab nt)
      have ht : upd (upd H4 u (.lst ((Txt.split y tabS).map V.str))) t (.tup ((Txt.split y tabS).map V.str)) t = some (.tup (sV (Txt.split y tabS))) := upd_same
      have nt4 : H4 t = none := (Ex.laid (o := .lst ((Txt.split y tabS).map V.str)) x4.tab nu).old _ nt
      generalize upd (upd H4 u (.lst ((Txt.split y tabS).map V.str))) t (.tup ((Txt.split y tabS).map V.str)) = H6 at x6 x46 ht ⊢
      have hD6 := x46.lst hD4
      have nDt : D ≠ t := fun e => by rw [e, nt4] at hD4; cases hD4
      refine ⟨_, hD6, by rw [List.length_map]; omega, ex_new x1.tab x6 nD, ps ++ [t], ?_, by rw [List.length_append, hpl]; rfl, fun j q z2 h1 h2 => ?_⟩
      · rw [upd_same, List.map_append]; rfl
      · by_cases hj : j < ps.length
        · rw [List.getElem?_append_left hj] at h1
          have h0 := x46.tup (hps j q z2 h1 h2)
          rw [upd_ne (fun e => by rw [e, hD6] at h0; cases h0)]
          exact h0
        · have hl2 := (List.getElem?_eq_some_iff.mp h1).1
          rw [List.length_append, List.length_singleton] at hl2
          have ej : j = i := by omega
          subst ej
          rw [List.getElem?_append_right (by omega), hpl, Nat.sub_self] at h1
          cases h1
          rw [hy] at h2
          cases h2
          rw [upd_ne nDt.symm]
          exact ht
    · rintro H4 ⟨x4, ps, hD4, hpl, hps⟩
      rw [List.length_map] at hpl
      refine k D ps H4 (x1.trans x4) (x1.old _ nD) hD4 ⟨by unfold rowsT; rw [List.length_map]; exact hpl, fun i q z2 h1 h2 => ?_⟩
      unfold rowsT at h2
      obtain ⟨l, hl, rfl⟩ := get_map h2
      exact hps i q l h1 hl
/-! ### written -/
def spWrit (K : PySem.W.Frag) (cs : List (Addr × Addr)) : Sp := fun vs H Q _ => ∃ (a : Addr) (as : List Addr) (rows : List (List Str)), vs = [.ref a] ∧ Tabs cs H ∧ PageAt K H a as rows ∧ PgOk rows ∧ ∀ H', Ex cs H H' → Q (.str (pageT rows)) H'
theorem sumLeT (m : Nat) : ∀ (ys : List Str), (∀ y ∈ ys, y.length ≤ m) → (ys.map (·.length)).sum ≤ ys.length * m
  | [], _ => Nat.zero_le _
  | y :: ys, h => by
    have h1 := h y (by simp)
    have h2 := sumLeT m ys fun x hx => h x (by simp [hx])
    rw [List.map_cons, List.sum_cons, List.length_cons, Nat.add_mul]
    omega
theorem sc_writ : FnScope ["page", "row"] ["page"] (defScope s_written) := ⟨rfl, rfl, rfl, by decide +kernel, rfl, by decide +kernel, by decide +kernel⟩
theorem ok_writ {f g1 : Addr} {fd fd1 : FuncData} (eT : ∃ t, mg "TAB" = some (.str tabS t)) (eL : ∃ t, mg "LINE_END" = some (.str lineS t)) (F : Fun K "written" "written" s_written f fd)
    (G1 : FnOk P w K mg base CX0 11 g1 fd1 ["page"] (spCheck K cs)) (k1 : PySem.W.keepIn K (.ref g1) = true) (b1 : Binds K fd1 ["page"] []) (m1 : mg "check_page" = some (.ref g1)) : FnOk P w K mg base CX0 12 f fd ["page"] (spWrit K cs) := by
  refine F.ok sc_writ (fun vs H Q E h => ?_) (fun cdv A outer s H vs Q E hr h => ?_)
  · obtain ⟨a, as, rows, rfl, _⟩ := h
    rfl
  · obtain ⟨a, as, rows, rfl, hT, hP, hO, k⟩ := h
    have nd := sc_writ.nd
    obtain ⟨tt, eT⟩ := eT
    obtain ⟨tl, eL⟩ := eL
    have szl : (1000 : Nat) < sizeLine := by decide
    refine ⟨_, pss_cons (ps_expr (pe_call G1 hr (by rfl) m1 k1 b1 .nil pass0 (pa_cons (pv 0) pa_nil))) (pss_one (ps_ret (pe_join (pe_glob (v := .str lineS) rfl eL ⟨_, rfl⟩)
      (pe_lc (own := [("row", 1)]) (g := gName 1) (tt := tYes) rfl nd (pi_list (pv 0)) (blkOk_by (own := [("row", 1)]) (N := ["page", "row"]) (sc := defScope s_written) (by decide +kernel)) (fun _ _ _ _ _ => pg_name (i := 1) nd rfl (Or.inl rfl)) (fun _ _ _ _ _ => pts_nil)
        (fun s1 H1 C1 cl1 fp1 => show PE _ _ (tM1 (rJoin K) (tC (.str tabS)) (tVar 1)) from pe_join (pe_glob (v := .str tabS) (by rfl) eT ⟨_, rfl⟩) (pv 1)))))), ?_⟩
    have hrl : ∀ r ∈ rows, r.length ≤ 6 ∧ ∀ z ∈ r, z.length ≤ 10 := fun r hr => ⟨(hO.rows r hr).2, fun z hz => ((hO.rows r hr).3 z hz).1⟩
    have hl := hO.len
    refine ⟨_, rfl, a, as, rows, rfl, hT, hP, hO, fun H1 x1 => ⟨⟨_, rfl⟩, _, rfl, a, rfl, ⟨_, x1.sqL hP.lst⟩, fun D nD => lc_list (xs := as.map V.ref) (fun i H' => Ex cs H1 H' ∧ H' D = some (.lst (sV ((rows.map rowT).take i))))
      ⟨Ex.laid x1.tab nD, upd_same⟩ (fun i H' _ x => x.1.sqL (x1.sqL hP.lst)) ?_ ?_⟩⟩
    · rintro i v H4 hv ⟨x4, hD4⟩
      obtain ⟨q, hq, rfl⟩ := get_map hv
      have hi := (List.getElem?_eq_some_iff.mp hq).1
      obtain ⟨r, hr2⟩ := getP (xs := rows) (i := i) (by rw [← hP.len]; exact hi)
      obtain ⟨l6, l10⟩ := hrl r (List.mem_of_getElem? hr2)
      have hs := sumLeT 10 r l10
      have e1 : tabS.length = 1 := by decide +kernel
      refine ⟨rfl, ⟨_, rfl⟩, _, rfl, _, q, r, rfl, rfl, .inr ((x1.trans x4).sqT (hP.row i q r hq hr2)), by rw [e1]; omega, _, hD4, ?_, ex_new x1.tab x4 nD, ?_⟩
      · rw [List.length_map, List.length_take]; rw [List.length_map]; have := hP.len; omega
      · have e : (rows.map rowT)[i]? = some (rowT r) := by
          rw [List.getElem?_map, hr2]
          rfl
        rw [upd_same, List.take_add_one, e]
        simp [sV]
        rfl
    · rintro H4 ⟨x4, hD4⟩
      have e2 : (rows.map rowT).take (as.map V.ref).length = rows.map rowT := List.take_of_length_le (by rw [List.length_map, List.length_map, hP.len]; exact Nat.le_refl _)
      rw [e2] at hD4
      have hs := sumLeT 66 (rows.map rowT) fun y hy => by
        obtain ⟨r, hr, rfl⟩ := List.mem_map.mp hy
        exact rowT_len (hO.rows r hr)
      rw [List.length_map] at hs
      have e1 : lineS.length = 1 := by decide +kernel
      exact ⟨_, D, rows.map rowT, rfl, rfl, .inl (SqL.of hD4), by rw [e1, List.length_map]; omega, k H4 (x1.trans x4)⟩
end
end TG


namespace TGK
open TG
open PySem PySem.Spec PyProof.Rows L2 NdefX GenW Gx Lv Dl EnT
theorem sqT_gwN {K : PySem.W.Frag} {H H' : Hp} {q : Addr} {xs : List V} (h : SqT K H q xs) (x : LamX.ExtN H H') : SqT K H' q xs := by
  rcases h with (h | ⟨u, h⟩) | h
  · exact .inl (.inl (x _ _ h fun ps z => by cases z))
  · exact .inl (.inr ⟨u, x _ _ h fun ps z => by cases z⟩)
  · exact .inr h
/-! ### what is no style -/
def BadSt (H : Hp) (v : V) : Prop := v = .non ∨ (∃ i : Int, v = .int i) ∨ (∃ t xs, v = .ref t ∧ H t = some (.lst xs)) ∨
  ∃ t xs, v = .ref t ∧ H t = some (.tup xs) ∧ ((xs.length ≠ 2 ∧ xs.length ≤ 1000) ∨ ∃ g l, xs = [g, l] ∧ (NoWh 0 4 g ∨ (∃ i : Int, g = .int i ∧ 0 ≤ i ∧ i ≤ 4) ∧ NoWh 0 12 l))
theorem BadSt.gw {H H' : Hp} {v : V} (h : BadSt H v) (x : LamX.ExtN H H') : BadSt H' v := by
  rcases h with h | h | ⟨t, xs, e, h⟩ | ⟨t, xs, e, h, q⟩
  · exact .inl h
  · exact .inr (.inl h)
  · exact .inr (.inr (.inl ⟨t, xs, e, x _ _ h fun ps z => nomatch z⟩))
  · exact .inr (.inr (.inr ⟨t, xs, e, x _ _ h (fun ps z => nomatch z), q⟩))
/-- rows of which the n-th is the first that can't be -/
structure BadRows (K : PySem.W.Frag) (H : Hp) (xs : List V) (n : Nat) : Prop where
  lt : n < xs.length
  le : n ≤ 30
  len : xs.length ≤ 100
  ok : ∀ i v, i < n → xs[i]? = some v → ∃ q r, v = .ref q ∧ SqT K H q (sV r) ∧ RowOk r
  bad : n = 30 ∨ ∃ v, xs[n]? = some v ∧ BadRv H v
theorem BadRows.gw {K : PySem.W.Frag} {H H' : Hp} {xs : List V} {n : Nat} (h : BadRows K H xs n) (x : LamX.ExtN H H') : BadRows K H' xs n :=
  ⟨h.lt, h.le, h.len, fun i v hi hv => by
    obtain ⟨q, r, e, hq, hr⟩ := h.ok i v hi hv
    exact ⟨q, r, e, sqT_gwN hq x, hr⟩, h.bad.imp id fun ⟨v, e, hv⟩ => ⟨v, e, hv.gw x⟩⟩
def BadPg (K : PySem.W.Frag) (H : Hp) (v : V) (n : Nat) : Prop :=
  (n = 0 ∧ (v = .non ∨ (∃ i : Int, v = .int i) ∨ (∃ z : Str, v = .str z) ∨ (∃ t xs, v = .ref t ∧ H t = some (.tup xs)) ∨ ∃ t, v = .ref t ∧ H t = some (.lst []))) ∨
  ∃ t xs, v = .ref t ∧ H t = some (.lst xs) ∧ BadRows K H xs n
theorem BadPg.gw {K : PySem.W.Frag} {H H' : Hp} {v : V} {n : Nat} (h : BadPg K H v n) (x : LamX.ExtN H H') : BadPg K H' v n := by
  rcases h with ⟨e, h | h | h | ⟨t, xs, e2, h⟩ | ⟨t, e2, h⟩⟩ | ⟨t, xs, e, h, q⟩
  · exact .inl ⟨e, .inl h⟩
  · exact .inl ⟨e, .inr (.inl h)⟩
  · exact .inl ⟨e, .inr (.inr (.inl h))⟩
  · exact .inl ⟨e, .inr (.inr (.inr (.inl ⟨t, xs, e2, x _ _ h fun ps z => nomatch z⟩)))⟩
  · exact .inl ⟨e, .inr (.inr (.inr (.inr ⟨t, e2, x _ _ h fun ps z => nomatch z⟩)))⟩
  · exact .inr ⟨t, xs, e, x _ _ h (fun ps z => nomatch z), q.gw x⟩
section
variable {P : Program} {w : World} {K : PySem.W.Frag} {mg : Str → Option Value} {base : Heap} {cs : List (Addr × Addr)} {C G : Addr}
def spStyleB (C : Addr) : Sp := fun vs H _ E => ∃ v, vs = [v] ∧ BadSt H v ∧ E (.ref C) none H
theorem ok_styleB {f g : Addr} {fd fdg : FuncData} (T : Txt mg) (N : Consts mg) (Er : ErrC K mg "BadStyle" C G) (F : Fun K "check_style" "check_style" s_check_style f fd)
    (W : FnOk P w K mg base CX0 1 g fdg ["value", "low", "high"] (orSp spWhole spWholeN)) (kp : PySem.W.keepIn K (.ref g) = true) (bd : Binds K fdg ["value", "low", "high"] []) (mgg : mg "is_whole" = some (.ref g)) :
    FnOk P w K mg base (L2.CX P w) 2 f fd ["style"] (spStyleB C) := by
  refine F.okX sc_style (fun vs H Q E h => ?_) (fun cdv A outer s H vs Q E hr h => ?_)
  · obtain ⟨v, rfl, _⟩ := h
    rfl
  · obtain ⟨v, rfl, hv, k⟩ := h
    have nd := sc_style.nd
    obtain ⟨t1, e1⟩ := N.gap
    obtain ⟨t2, e2⟩ := N.least
    refine ⟨_, pss_cons (ps_if (PW.pt (pw_or (pt_not (pt_val (pe_callB call_isi (by rfl) T.isin (by decide +kernel) (pa_cons (pv 0) (pa_cons (pe_bltn (v := .ty "tuple") (by rfl) T.tuple (by decide +kernel) rfl) pa_nil)))))
        (pw_or1 (pt_cmpR op_ne (pe_callB call_len_seq (by rfl) T.len PySem.boot_len (pa_cons (pv 0) pa_nil)) pe_int (nomark _)))))
      (pss_one (ps_raise rfl (takes_of rfl rfl rfl rfl) (pmk_own PySem.F.excBase_ValueError Er.exc Er.mg_ Er.kp (raises_own Er.sub Er.ty) rfl))) pss_nil)
      (pss_cons (ps_asg (pv 0) (pg_tup rfl (pgs_cons (pg_name (i := 1) nd rfl (.inl rfl)) (pgs_cons (pg_name (i := 2) nd rfl (.inl rfl)) pgs_nil))))
      (pss_one (ps_if (PW.pt (pw_or (pt_not (pt_val (pe_call W hr (by rfl) mgg kp bd .nil pass0 (pa_cons (pv 1) (pa_cons pe_int (pa_cons (pe_glob (v := .int 4) rfl e1 ⟨_, rfl⟩) pa_nil))))))
        (pw_or1 (pt_not (pt_val (pe_call W hr (by rfl) mgg kp bd .nil pass0 (pa_cons (pv 2) (pa_cons pe_int (pa_cons (pe_glob (v := .int 12) rfl e2 ⟨_, rfl⟩) pa_nil)))))))))
        (pss_one (ps_raise rfl (takes_of rfl rfl rfl rfl) (pmk_own PySem.F.excBase_ValueError Er.exc Er.mg_ Er.kp (raises_own Er.sub Er.ty) rfl))) pss_nil))), ?_⟩
    rcases hv with rfl | ⟨i, rfl⟩ | ⟨t, xs, rfl, h⟩ | ⟨t, xs, rfl, h, q⟩
    · exact ⟨_, rfl, _, _, _, _, false, rfl, .ty _, .base .non, kit_ty (by decide +kernel), false, rfl, iteT k⟩
    · exact ⟨_, rfl, _, _, _, _, false, rfl, .ty _, .base (.int i), kit_ty (by decide +kernel), false, rfl, iteT k⟩
    · exact ⟨_, rfl, _, _, _, _, false, rfl, .ty _, ty_list (SqL.of h), kit_ty (by decide +kernel), false, rfl, iteT k⟩
    · have hS : SqT K H t xs := SqT.of h
      refine ⟨_, rfl, _, _, _, _, true, rfl, .ty _, ty_tup hS, kit_ty (by decide +kernel), true, rfl, iteF ⟨_, rfl, t, _, rfl, .inr hS, rfl, ?_⟩⟩
      rcases q with ⟨q, q2⟩ | ⟨g, l, rfl, q⟩
      · exact ⟨true, by rw [decide_eq_false (fun z => q (by injection z with z; omega))]; rfl, iteT k⟩
      · refine ⟨false, rfl, iteF ⟨_, rfl, t, _, rfl, hS, rfl, _, _, rfl, _, _, rfl, rfl, ?_⟩⟩
        rcases q with q | ⟨⟨i, rfl, i0, i1⟩, q⟩
        · exact ⟨_, rfl, .inr ⟨g, 0, 4, rfl, q, false, rfl, iteT k⟩⟩
        · exact ⟨_, rfl, .inl ⟨i, 0, 4, rfl, i0, i1, true, rfl, iteF ⟨_, rfl, .inr ⟨l, 0, 12, rfl, q, false, rfl, iteT k⟩⟩⟩⟩
/-! ### what is no page -/
def spMisM (K : PySem.W.Frag) (cs : List (Addr × Addr)) : Sp := fun vs H Q _ => ∃ (a : Addr) (xs : List V) (n : Nat), vs = [.ref a] ∧ Tabs cs H ∧ SqL K H a xs ∧ BadRows K H xs n ∧ ∀ H', Ex cs H H' → Q (.int (n : Nat)) H'
theorem ok_misM {f g : Addr} {fd fdg : FuncData} (T : Txt mg) (N : Consts mg) (F : Fun K "first_misfit" "first_misfit" s_misfit f fd)
    (W : FnOk P w K mg base CX0 9 g fdg ["value"] (orSp (spRow K cs) (spRowN cs))) (kp : PySem.W.keepIn K (.ref g) = true) (bd : Binds K fdg ["value"] []) (mgg : mg "is_row" = some (.ref g)) : FnOk P w K mg base CX0 10 f fd ["rows"] (spMisM K cs) := by
  refine F.ok sc_misfit (fun vs H Q E h => ?_) (fun cdv A outer s H vs Q E hr h => ?_)
  · obtain ⟨a, xs, n, rfl, _⟩ := h
    rfl
  · obtain ⟨a, xs, n, rfl, hT, hP, hB, k⟩ := h
    have nd := sc_misfit.nd
    obtain ⟨t1, e1⟩ := N.rows
    refine ⟨_, pss_cons (ps_for PassesOwn.never rfl (pi_enum (by rfl) T.enum (pa_cons (pv 0) pa_nil)) (pg_tup rfl (pgs_cons (pg_name (i := 1) nd rfl (.inl rfl)) (pgs_cons (pg_name (i := 2) nd rfl (.inl rfl)) pgs_nil)))
        (pss_one (ps_if (PW.pt (pw_or (pt_cmpR op_eq (pv 1) (pe_glob (v := .int 30) rfl e1 ⟨_, rfl⟩) (nomark _)) (pw_or1 (pt_not (pt_val (pe_call W hr (by rfl) mgg kp bd .nil pass0 (pa_cons (pv 2) pa_nil))))))) (pss_one (ps_ret (pv 1))) pss_nil)))
      (pss_one ps_never), ?_⟩
    have hlt := hB.lt
    have hle := hB.le
    have h100 := hB.len
    refine ⟨_, rfl, a, _, rfl, hP, for_it (walk_enum (xs := xs)) (fun i σ H' => i ≤ n ∧ Ex cs H H' ∧ ∃ c1 c2 : Option V, σ = [some (.ref a), c1, c2]) ⟨Nat.zero_le _, Ex.refl hT, _, _, rfl⟩ (fun i σ H' _ x => x.2.1.sqL hP) ?_ ?_⟩
    · rintro i x σ H3 H4 hi ⟨hin, x3, c1, c2, rfl⟩ ⟨Tp, v, u, rfl, hn, rfl, hv, hu⟩
      cases hv
      have hu : xs[i]? = some u := hu
      have xl := Ex.laid (o := .tup [.int (i : Nat), u]) x3.tab hn
      have x4 := x3.trans xl
      refine ⟨Tp, _, rfl, .inl (.inl upd_same), rfl, _, _, rfl, _, _, rfl, rfl, ?_⟩
      by_cases hl : i < n
      · obtain ⟨q, r, rfl, hq, hr2⟩ := hB.ok i u hl hu
        exact ⟨_, rfl, rfl, false, dF (fun z => by injection z with z; omega), iteF ⟨_, rfl, .inl ⟨q, r, rfl, xl.tab, x4.sqT hq, hr2, fun H5 x5 => ⟨true, rfl, iteF ⟨by omega, x4.trans x5, _, _, rfl⟩⟩⟩⟩⟩
      · have ein : i = n := by omega
        subst ein
        by_cases e30 : i = 30
        · exact ⟨_, rfl, rfl, true, dT (by rw [e30]; rfl), iteT (iteT ⟨_, rfl, k _ x4⟩)⟩
        · rcases hB.bad with z | ⟨bv, hbv, hbd⟩
          · exact absurd z e30
          · rw [hbv] at hu
            cases hu
            exact ⟨_, rfl, rfl, false, dF (fun z => by injection z with z; omega), iteF ⟨_, rfl, .inr ⟨u, rfl, xl.tab, hbd.gw x4.ext, fun H5 x5 => ⟨false, rfl, iteT ⟨_, rfl, k _ (x4.trans x5)⟩⟩⟩⟩⟩
    · rintro σ H' ⟨hin, _⟩
      omega
def spPageX (K : PySem.W.Frag) (cs : List (Addr × Addr)) (C : Addr) : Sp := fun vs H _ E => ∃ (v : V) (n : Nat), vs = [v] ∧ Tabs cs H ∧ BadPg K H v n ∧
  ∀ (d : Addr) (H' : Hp), Ex cs H H' → H d = none → H' d = some (.xd [("row", .int (n : Nat))]) → E (.ref C) (some d) H'
theorem ok_pageX {f g fI : Addr} {fd fdg fdI : FuncData} (T : Txt mg) (R : RaiseC P w K mg base "BadPage" "row" C fI fdI) (F : Fun K "check_page" "check_page" s_check_page f fd)
    (W : FnOk P w K mg base CX0 10 g fdg ["rows"] (spMisM K cs)) (kp : PySem.W.keepIn K (.ref g) = true) (bd : Binds K fdg ["rows"] []) (mgg : mg "first_misfit" = some (.ref g)) : FnOk P w K mg base (L2.CX P w) 11 f fd ["page"] (spPageX K cs C) := by
  refine F.okX sc_check (fun vs H Q E h => ?_) (fun cdv A outer s H vs Q E hr h => ?_)
  · obtain ⟨v, n, rfl, _⟩ := h
    rfl
  · obtain ⟨v, n, rfl, hT, hv, k⟩ := h
    have nd := sc_check.nd
    have r2 : Room 2 _ := hr.mono (by decide)
    have szl : (9000 : Nat) < sizeLine := by decide
    refine ⟨_, pss_cons (ps_if (PW.pt (pw_or (pt_not (pt_val (pe_callB call_isi (by rfl) T.isin (by decide +kernel) (pa_cons (pv 0) (pa_cons (pe_bltn (v := .ty "list") (by rfl) T.list (by decide +kernel) rfl) pa_nil)))))
        (pw_or1 (pt_cmpR op_eq (pe_callB call_len_seq (by rfl) T.len PySem.boot_len (pa_cons (pv 0) pa_nil)) pe_int (nomark _))))) (pss_one (ps_raise rfl (takes_of rfl rfl rfl rfl) (pmk_oex R.oex R.iC R.tI R.ini r2 R.bd .nil pass0 (by rfl) R.mg_ (pa_cons pe_int pa_nil)))) pss_nil)
      (pss_cons (ps_set (i := 1) nd rfl (.inl rfl) (pe_call W hr (by rfl) mgg kp bd .nil pass0 (pa_cons (pv 0) pa_nil)))
      (pss_one (ps_if (pt_cmpR op_notN (pv 1) pe_non (nomark _)) (pss_one (ps_raise rfl (takes_of rfl rfl rfl rfl) (pmk_oex R.oex R.iC R.tI R.ini r2 R.bd .nil pass0 (by rfl) R.mg_ (pa_cons (pv 1) pa_nil)))) pss_nil))), ?_⟩
    rcases hv with ⟨rfl, hv⟩ | ⟨t, xs, rfl, h, hB⟩
    · rcases hv with rfl | ⟨i, rfl⟩ | ⟨z, rfl⟩ | ⟨t, xs, rfl, h⟩ | ⟨t, rfl, h⟩
      · refine ⟨_, rfl, _, _, _, _, false, rfl, .ty _, .base .non, kit_ty (by decide +kernel), false, rfl, iteT (iteT ?_)⟩
        exact raise_go (n := ((0 : Nat) : Int)) hT (by decide) (by decide) (fun Q q => q) fun d H' x3 nd3 hd3 => k d H' x3 nd3 hd3
      · refine ⟨_, rfl, _, _, _, _, false, rfl, .ty _, .base (.int i), kit_ty (by decide +kernel), false, rfl, iteT (iteT ?_)⟩
        exact raise_go (n := ((0 : Nat) : Int)) hT (by decide) (by decide) (fun Q q => q) fun d H' x3 nd3 hd3 => k d H' x3 nd3 hd3
      · refine ⟨_, rfl, _, _, _, _, false, rfl, .ty _, .base (.str z), kit_ty (by decide +kernel), false, rfl, iteT (iteT ?_)⟩
        exact raise_go (n := ((0 : Nat) : Int)) hT (by decide) (by decide) (fun Q q => q) fun d H' x3 nd3 hd3 => k d H' x3 nd3 hd3
      · refine ⟨_, rfl, _, _, _, _, false, rfl, .ty _, ty_tup (SqT.of h), kit_ty (by decide +kernel), false, rfl, iteT (iteT ?_)⟩
        exact raise_go (n := ((0 : Nat) : Int)) hT (by decide) (by decide) (fun Q q => q) fun d H' x3 nd3 hd3 => k d H' x3 nd3 hd3
      · refine ⟨_, rfl, _, _, _, _, true, rfl, .ty _, ty_list (SqL.of h), kit_ty (by decide +kernel), true, rfl, iteF ⟨_, rfl, t, _, rfl, .inl (SqL.of h), rfl, true, rfl, iteT ?_⟩⟩
        exact raise_go (n := ((0 : Nat) : Int)) hT (by decide) (by decide) (fun Q q => q) fun d H' x3 nd3 hd3 => k d H' x3 nd3 hd3
    · have hlt := hB.lt
      have hle := hB.le
      refine ⟨_, rfl, _, _, _, _, true, rfl, .ty _, ty_list (SqL.of h), kit_ty (by decide +kernel), true, rfl, iteF ⟨_, rfl, t, _, rfl, .inl (SqL.of h), rfl, false, dF (fun z => by injection z with z; omega), iteF ?_⟩⟩
      refine ⟨_, rfl, t, xs, n, rfl, hT, SqL.of h, hB, fun H2 x2 => ⟨_, rfl, rfl, true, rfl, iteT ?_⟩⟩
      refine raise_go (n := ((n : Nat) : Int)) x2.tab (by omega) (by omega) (fun Q q => ⟨_, rfl, q⟩) fun d H' x3 nd3 hd3 => ?_
      exact k d H' (x2.trans x3) (x2.old _ nd3) hd3
end
end TGK

namespace TGK
open TG
open PySem PySem.Spec PyProof.Rows L2 NdefX GenW Gx Lv Dl EnT
/-! ### places of this text -/
abbrev s_judged : Stmt := top 47
abbrev s_placed : Stmt := top 73
abbrev s_many_moved : Stmt := top 74
abbrev s_gapw : Stmt := top 75
abbrev s_route : Stmt := top 77
abbrev s_stepped : Stmt := top 79
abbrev s_written : Stmt := top 63
abbrev nCursor : Nat := 59
abbrev nTable : Nat := 67
/-! ### all that is handed a page and a style that can't be -/
def GoodP (K : PySem.W.Frag) (H : Hp) (a : V) : Prop := ∃ (p : Addr) (as : List Addr) (rows : List (List Str)), a = .ref p ∧ PageAt K H p as rows ∧ PgOk rows
def Bad2 (K : PySem.W.Frag) (H : Hp) (a st : V) (j : Nat) (n : Int) : Prop := (j = 0 ∧ ∃ m : Nat, n = ((m : Nat) : Int) ∧ BadPg K H a m) ∨ (j = 1 ∧ n = 0 ∧ GoodP K H a ∧ BadSt H st)
def Lets (K : PySem.W.Frag) (cs : List (Addr × Addr)) (H : Hp) (E : XK) (j : Nat) (n : Int) : Prop := ∀ (cls : Value) (d : Option Addr) (H' : Hp), ErrAt K H' j n cls d → Ex cs H H' → E cls d H'
def Door (K : PySem.W.Frag) (cs : List (Addr × Addr)) (H : Hp) (E : XK) (a st : V) : Prop := Tabs cs H ∧ ∃ (j : Nat) (n : Int), Bad2 K H a st j n ∧ Lets K cs H E j n
theorem pageAt_gwN {K : PySem.W.Frag} {H H' : Hp} {p : Addr} {as : List Addr} {rows : List (List Str)} (h : PageAt K H p as rows) (x : LamX.ExtN H H') : PageAt K H' p as rows := ⟨by
  rcases h.lst with (h | ⟨u, h⟩) | h
  · exact .inl (.inl (x _ _ h fun ps z => by cases z))
  · exact .inl (.inr ⟨u, x _ _ h fun ps z => by cases z⟩)
  · exact .inr h, h.len, fun i q r e1 e2 => sqT_gwN (h.row i q r e1 e2) x⟩
theorem GoodP.gw {K : PySem.W.Frag} {H H' : Hp} {a : V} (h : GoodP K H a) (x : LamX.ExtN H H') : GoodP K H' a := by
  obtain ⟨p, as, rows, e, hP, hO⟩ := h
  exact ⟨p, as, rows, e, pageAt_gwN hP x, hO⟩
theorem Bad2.gw {K : PySem.W.Frag} {H H' : Hp} {a st : V} {j : Nat} {n : Int} (h : Bad2 K H a st j n) (x : LamX.ExtN H H') : Bad2 K H' a st j n := by
  rcases h with ⟨e, m, e2, h⟩ | ⟨e, e2, h, q⟩
  · exact .inl ⟨e, m, e2, h.gw x⟩
  · exact .inr ⟨e, e2, h.gw x, q.gw x⟩
theorem Lets.after {K : PySem.W.Frag} {cs : List (Addr × Addr)} {H H' : Hp} {E : XK} {j : Nat} {n : Int} (h : Lets K cs H E j n) (x : Ex cs H H') : Lets K cs H' E j n := fun cls d H2 e x2 => h cls d H2 e (x.trans x2)
theorem err_row {K : PySem.W.Frag} {H : Hp} {C d : Addr} {m : Nat} (eP : C = He.ga K (nmE 0)) (h : H d = some (.xd [("row", .int (m : Nat))])) : ErrAt K H 0 ((m : Nat) : Int) (.ref C) (some d) := ⟨by decide, by rw [eP], fun _ => ⟨d, rfl, h⟩, fun z => absurd z (by decide)⟩
theorem err_one {K : PySem.W.Frag} {H : Hp} {B : Addr} (eB : B = He.ga K (nmE 1)) : ErrAt K H 1 0 (.ref B) none := ⟨by decide, by rw [eB], fun n => absurd rfl n, fun _ => ⟨rfl, rfl⟩⟩
section
variable {P : Program} {w : World} {K : PySem.W.Frag} {mg : Str → Option Value} {base : Heap} {cs : List (Addr × Addr)} {S U B C G : Addr}
/-- the page is asked first, then the style -/
theorem Door.pg {H : Hp} {Q : VK} {E : XK} {a st : V} (d : Door K cs H E a st) (eP : C = He.ga K (nmE 0)) (eB : B = He.ga K (nmE 1)) (k : ∀ H', GoodP K H' a → Ex cs H H' → BadSt H' st → (∀ H'', Ex cs H' H'' → E (.ref B) none H'') → Q .non H') : orSp (spPageX K cs C) (spCheck K cs) [a] H Q E := by
  obtain ⟨hT, j, n, hb, hE⟩ := d
  rcases hb with ⟨rfl, m, rfl, hb⟩ | ⟨rfl, rfl, hg, hS⟩
  · exact .inl ⟨a, m, rfl, hT, hb, fun d H' x nd hd => hE _ _ _ (err_row eP hd) x⟩
  · obtain ⟨p, as, rows, rfl, hP, hO⟩ := id hg
    exact .inr ⟨p, as, rows, rfl, hT, hP, hO, fun H' x => k H' (hg.gw x.ext) x (hS.gw x.ext) fun H'' x2 => hE _ _ _ (err_one eB) (x.trans x2)⟩
def spD2 (K : PySem.W.Frag) (cs : List (Addr × Addr)) : Sp := fun vs H _ E => ∃ a st, vs = [a, st] ∧ Door K cs H E a st
def spD3 (K : PySem.W.Frag) (cs : List (Addr × Addr)) : Sp := fun vs H _ E => ∃ a st x, vs = [a, st, x] ∧ Door K cs H E a st
def spD4 (K : PySem.W.Frag) (cs : List (Addr × Addr)) : Sp := fun vs H _ E => ∃ a st x y, vs = [a, st, x, y] ∧ Door K cs H E a st
def spI3 (K : PySem.W.Frag) (cs : List (Addr × Addr)) : Sp := fun vs H _ E => ∃ s a st, vs = [s, a, st] ∧ Door K cs H E a st
def spI4 (K : PySem.W.Frag) (cs : List (Addr × Addr)) : Sp := fun vs H _ E => ∃ s a st x, vs = [s, a, st, x] ∧ Door K cs H E a st
def spWritX (K : PySem.W.Frag) (cs : List (Addr × Addr)) : Sp := fun vs H _ E => ∃ (a : V) (m : Nat), vs = [a] ∧ Tabs cs H ∧ BadPg K H a m ∧ Lets K cs H E 0 ((m : Nat) : Int)
theorem ok_strD {f gP gS : Addr} {fd fdP fdS : FuncData} (eP : C = He.ga K (nmE 0)) (eB : B = He.ga K (nmE 1)) (F : Fun K "stretches" "stretches" s_stretches f fd)
    (GP : FnOk P w K mg base (L2.CX P w) 11 gP fdP ["page"] (orSp (spPageX K cs C) (spCheck K cs))) (kP : PySem.W.keepIn K (.ref gP) = true) (bP : Binds K fdP ["page"] []) (mP : mg "check_page" = some (.ref gP))
    (GS : FnOk P w K mg base (L2.CX P w) 2 gS fdS ["style"] (spStyleB B)) (kS : PySem.W.keepIn K (.ref gS) = true) (bS : Binds K fdS ["style"] []) (mS : mg "check_style" = some (.ref gS)) :
    FnOk P w K mg base (L2.CX P w) 12 f fd ["page", "style"] (spD2 K cs) := by
  refine F.okX sc_str (fun vs H Q E h => ?_) (fun cdv A outer s H vs Q E hr h => ?_)
  · obtain ⟨a, st, rfl, _⟩ := h
    rfl
  · obtain ⟨a, st, rfl, d⟩ := h
    have nd := (sc_str).nd
    have r11 : Room 11 _ := hr.mono (by decide)
    have r2 : Room 2 _ := hr.mono (by decide)
    refine ⟨_, (pss_cons (ps_expr (pe_callS GP r11 (by rfl) mP kP bP (fun σ => passAt (takes_of rfl rfl rfl rfl) σ) (pa_cons (pv 0) pa_nil)))
      (pss_cons (ps_expr (pe_callS GS r2 (by rfl) mS kS bS (fun σ => passAt (takes_of rfl rfl rfl rfl) σ) (pa_cons (pv 1) pa_nil)))
      (pss_cons ps_never
      (pss_cons ps_never
      (pss_one ps_never))))), ?_⟩
    exact ⟨_, rfl, d.pg eP eB fun H' _ x hS hE => ⟨_, rfl, st, rfl, hS, hE _ (Ex.refl x.tab)⟩⟩
theorem ok_ccD {f gt : Addr} {fd fdt : FuncData} (F : Fun K "closed_cells" "closed_cells" s_closed_cells f fd)
    (Gt : FnOk P w K mg base (L2.CX P w) 12 gt fdt ["page", "style"] (spD2 K cs)) (kt : PySem.W.keepIn K (.ref gt) = true) (bt : Binds K fdt ["page", "style"] []) (mt : mg "stretches" = some (.ref gt)) :
    FnOk P w K mg base (L2.CX P w) 13 f fd ["page", "style"] (spD2 K cs) := by
  refine F.okX sc_cc (fun vs H Q E h => ?_) (fun cdv A outer s H vs Q E hr h => ?_)
  · obtain ⟨a, st, rfl, _⟩ := h
    rfl
  · obtain ⟨a, st, rfl, d⟩ := h
    have nd := (sc_cc).nd
    have r12 : Room 12 _ := hr.mono (by decide)
    refine ⟨_, (pss_cons (ps_set (i := 2) nd rfl (.inl rfl) (pe_callS Gt r12 (by rfl) mt kt bt (fun σ => passAt (takes_of rfl rfl rfl rfl) σ) (pa_cons (pv 0) (pa_cons (pv 1) pa_nil))))
      (pss_cons ps_never
      (pss_cons ps_never
      (pss_one ps_never)))), ?_⟩
    exact ⟨_, rfl, _, rfl, a, st, rfl, d⟩
theorem ok_stopsD {f gc g2 : Addr} {fd fdc fd2 : FuncData} (F : Fun K "stops" "stops" s_stops f fd)
    (Gc : FnOk P w K mg base (L2.CX P w) 13 gc fdc ["page", "style"] (spD2 K cs)) (kc : PySem.W.keepIn K (.ref gc) = true) (bc : Binds K fdc ["page", "style"] []) (mc : mg "closed_cells" = some (.ref gc))
    (G2 : FnOk P w K mg base CX0 1 g2 fd2 ["closed"] (spLE)) (k2 : PySem.W.keepIn K (.ref g2) = true) (b2 : Binds K fd2 ["closed"] []) (m2 : mg "left_ends" = some (.ref g2)) :
    FnOk P w K mg base (L2.CX P w) 14 f fd ["page", "style"] (spD2 K cs) := by
  refine F.okX sc_stops (fun vs H Q E h => ?_) (fun cdv A outer s H vs Q E hr h => ?_)
  · obtain ⟨a, st, rfl, _⟩ := h
    rfl
  · obtain ⟨a, st, rfl, d⟩ := h
    have nd := (sc_stops).nd
    have r13 : Room 13 _ := hr.mono (by decide)
    have r1 : Room 1 _ := hr.mono (by decide)
    refine ⟨_, pss_one (ps_ret (pe_lc (own := [("closed", 2)]) (g := gName 2) (tt := tYes) rfl nd (pi_list (pe_callS Gc r13 (by rfl) mc kc bc (fun σ => passAt (takes_of rfl rfl rfl rfl) σ) (pa_cons (pv 0) (pa_cons (pv 1) pa_nil)))) (blkOk_by (own := [("closed", 2)]) (N := nmStops) (sc := defScope s_stops) (by decide +kernel))
        (fun _ _ _ _ _ => pg_name (i := 2) nd rfl (Or.inl rfl)) (fun _ _ _ _ _ => pts_nil) (fun s1 H1 C1 cl1 fp1 => pe_call G2 r1 (by rfl) m2 k2 b2 .nil pass0 (pa_cons (pv 2) pa_nil)))), ?_⟩
    exact ⟨_, rfl, _, rfl, a, st, rfl, d⟩
theorem ok_laidD {f gc : Addr} {fd fdc : FuncData} (F : Fun K "laid" "laid" s_laid f fd)
    (Gc : FnOk P w K mg base (L2.CX P w) 13 gc fdc ["page", "style"] (spD2 K cs)) (kc : PySem.W.keepIn K (.ref gc) = true) (bc : Binds K fdc ["page", "style"] []) (mc : mg "closed_cells" = some (.ref gc)) :
    FnOk P w K mg base (L2.CX P w) 14 f fd ["page", "style"] (spD2 K cs) := by
  refine F.okX sc_laid (fun vs H Q E h => ?_) (fun cdv A outer s H vs Q E hr h => ?_)
  · obtain ⟨a, st, rfl, _⟩ := h
    rfl
  · obtain ⟨a, st, rfl, d⟩ := h
    have nd := (sc_laid).nd
    have r13 : Room 13 _ := hr.mono (by decide)
    refine ⟨_, (pss_cons (ps_set (i := 2) nd rfl (.inl rfl) (pe_callS Gc r13 (by rfl) mc kc bc (fun σ => passAt (takes_of rfl rfl rfl rfl) σ) (pa_cons (pv 0) (pa_cons (pv 1) pa_nil))))
      (pss_cons ps_never
      (pss_one ps_never))), ?_⟩
    exact ⟨_, rfl, _, rfl, a, st, rfl, d⟩
theorem ok_shownD {f gl g2 : Addr} {fd fdl fd2 : FuncData} (hz : mg "zip" = none) (F : Fun K "shown" "shown" s_shown f fd)
    (Gl : FnOk P w K mg base (L2.CX P w) 14 gl fdl ["page", "style"] (spD2 K cs)) (kl : PySem.W.keepIn K (.ref gl) = true) (bl : Binds K fdl ["page", "style"] []) (ml : mg "laid" = some (.ref gl))
    (G2 : FnOk P w K mg base CX0 1 g2 fd2 ["row", "begins"] (spLine K)) (k2 : PySem.W.keepIn K (.ref g2) = true) (b2 : Binds K fd2 ["row", "begins"] []) (m2 : mg "line_of" = some (.ref g2)) :
    FnOk P w K mg base (L2.CX P w) 15 f fd ["page", "style"] (spD2 K cs) := by
  refine F.okX sc_shown (fun vs H Q E h => ?_) (fun cdv A outer s H vs Q E hr h => ?_)
  · obtain ⟨a, st, rfl, _⟩ := h
    rfl
  · obtain ⟨a, st, rfl, d⟩ := h
    have nd := (sc_shown).nd
    have r14 : Room 14 _ := hr.mono (by decide)
    have r1 : Room 1 _ := hr.mono (by decide)
    refine ⟨_, pss_one (ps_ret (pe_lc (own := [("row", 2), ("begins", 3)]) (g := gTup K 2 (gCons (gName 2) (gCons (gName 3) gNil))) (tt := tYes) rfl nd (pi_zip (by rfl) hz (pa_cons (pv 0) (pa_cons (pe_callS Gl r14 (by rfl) ml kl bl (fun σ => passAt (takes_of rfl rfl rfl rfl) σ) (pa_cons (pv 0) (pa_cons (pv 1) pa_nil))) pa_nil))) (blkOk_by (own := [("row", 2), ("begins", 3)]) (N := nmShown) (sc := defScope s_shown) (by decide +kernel))
        (fun _ _ _ _ _ => pg_tup rfl (pgs_cons (pg_name (i := 2) nd rfl (.inl rfl) (.inr rfl)) (pgs_cons (pg_name (i := 3) nd rfl (.inl rfl) (.inr rfl)) pgs_nil))) (fun _ _ _ _ _ => pts_nil) (fun s1 H1 C1 cl1 fp1 => pe_call G2 r1 (by rfl) m2 k2 b2 .nil pass0 (pa_cons (pv 2) (pa_cons (pv 3) pa_nil))))), ?_⟩
    exact ⟨_, rfl, _, rfl, _, rfl, a, st, rfl, d⟩
theorem sc_judD : FnScope ["page", "style", "told", "rows", "row", "begins", "cell", "begin"] ["page", "style", "told"] (defScope s_judged) := ⟨rfl, rfl, rfl, by decide +kernel, rfl, by decide +kernel, by decide +kernel⟩
theorem ok_judD {f gl : Addr} {fd fdl : FuncData} (F : Fun K "judged" "judged" s_judged f fd)
    (Gl : FnOk P w K mg base (L2.CX P w) 14 gl fdl ["page", "style"] (spD2 K cs)) (kl : PySem.W.keepIn K (.ref gl) = true) (bl : Binds K fdl ["page", "style"] []) (ml : mg "laid" = some (.ref gl)) :
    FnOk P w K mg base (L2.CX P w) 15 f fd ["page", "style", "told"] (spD3 K cs) := by
  refine F.okX sc_judD (fun vs H Q E h => ?_) (fun cdv A outer s H vs Q E hr h => ?_)
  · obtain ⟨a, st, x, rfl, _⟩ := h
    rfl
  · obtain ⟨a, st, x, rfl, d⟩ := h
    have nd := (sc_judD).nd
    have r14 : Room 14 _ := hr.mono (by decide)
    refine ⟨_, (pss_cons (ps_set (i := 3) nd rfl (.inl rfl) (pe_callS Gl r14 (by rfl) ml kl bl (fun σ => passAt (takes_of rfl rfl rfl rfl) σ) (pa_cons (pv 0) (pa_cons (pv 1) pa_nil))))
      (pss_cons ps_never
      (pss_cons ps_never
      (pss_one ps_never)))), ?_⟩
    exact ⟨_, rfl, _, rfl, a, st, rfl, d⟩
theorem sc_shiD : FnScope ["self", "page", "style"] ["self", "page", "style"] (defScope (mth nSheet 0)) := ⟨rfl, rfl, rfl, by decide +kernel, rfl, by decide +kernel, by decide +kernel⟩
theorem ok_shiD {f gP gS : Addr} {fd fdP fdS : FuncData} (eP : C = He.ga K (nmE 0)) (eB : B = He.ga K (nmE 1)) (F : Fun K "__init__" "Sheet.__init__" (mth nSheet 0) f fd)
    (GP : FnOk P w K mg base (L2.CX P w) 11 gP fdP ["page"] (orSp (spPageX K cs C) (spCheck K cs))) (kP : PySem.W.keepIn K (.ref gP) = true) (bP : Binds K fdP ["page"] []) (mP : mg "check_page" = some (.ref gP))
    (GS : FnOk P w K mg base (L2.CX P w) 2 gS fdS ["style"] (spStyleB B)) (kS : PySem.W.keepIn K (.ref gS) = true) (bS : Binds K fdS ["style"] []) (mS : mg "check_style" = some (.ref gS)) :
    FnOk P w K mg base (L2.CX P w) 12 f fd ["self", "page", "style"] (spI3 K cs) := by
  refine F.okX sc_shiD (fun vs H Q E h => ?_) (fun cdv A outer s H vs Q E hr h => ?_)
  · obtain ⟨s0, a, st, rfl, _⟩ := h
    rfl
  · obtain ⟨s0, a, st, rfl, d⟩ := h
    have nd := (sc_shiD).nd
    have r11 : Room 11 _ := hr.mono (by decide)
    have r2 : Room 2 _ := hr.mono (by decide)
    refine ⟨_, (pss_cons (ps_expr (pe_callS GP r11 (by rfl) mP kP bP (fun σ => passAt (takes_of rfl rfl rfl rfl) σ) (pa_cons (pv 1) pa_nil)))
      (pss_cons (ps_expr (pe_callS GS r2 (by rfl) mS kS bS (fun σ => passAt (takes_of rfl rfl rfl rfl) σ) (pa_cons (pv 2) pa_nil)))
      (pss_cons ps_never
      (pss_cons ps_never
      (pss_one ps_never))))), ?_⟩
    exact ⟨_, rfl, d.pg eP eB fun H' _ x hS hE => ⟨_, rfl, st, rfl, hS, hE _ (Ex.refl x.tab)⟩⟩
theorem Door.made {H : Hp} {E : XK} {a st : V} {sh dx : Addr} (d : Door K cs H E a st) (nsh : H sh = none) (ndx : H dx = none) : Door K cs (upd (upd H dx (.own sh)) sh (.ins S dx [])) E a st := by
  obtain ⟨hT, j, n, hb, hE⟩ := d
  have x7 : Same H (upd (upd H dx (.own sh)) sh (.ins S dx [])) := fun c o h => by rw [upd_ne (ne_of_none h nsh), upd_ne (ne_of_none h ndx)]; exact h
  have x := ex_same hT x7
  exact ⟨x.tab, j, n, hb.gw x.ext, hE.after x⟩
theorem sc_cuiD : FnScope ["self", "page", "style"] ["self", "page", "style"] (defScope (mth nCursor 0)) := ⟨rfl, rfl, rfl, by decide +kernel, rfl, by decide +kernel, by decide +kernel⟩
theorem ok_cuiD {f gC : Addr} {fd fdC : FuncData} (F : Fun K "__init__" "Cursor.__init__" (mth nCursor 0) f fd)
    (MC : Mk K S gC) (GC : FnOk P w K mg base (L2.CX P w) 12 gC fdC ["self", "page", "style"] (spI3 K cs)) (bC : Binds K fdC ["self", "page", "style"] []) (mC : mg "Sheet" = some (.ref S)) :
    FnOk P w K mg base (L2.CX P w) 14 f fd ["self", "page", "style"] (spI3 K cs) := by
  refine F.okX sc_cuiD (fun vs H Q E h => ?_) (fun cdv A outer s H vs Q E hr h => ?_)
  · obtain ⟨s0, a, st, rfl, _⟩ := h
    rfl
  · obtain ⟨s0, a, st, rfl, d⟩ := h
    have nd := (sc_cuiD).nd
    have r13 : Room 13 _ := hr.mono (by decide)
    refine ⟨_, (pss_cons (ps_fld (pv 0) (pe_make MC GC r13 (by rfl) mC bC .nil (passes_call (takes_of rfl rfl rfl rfl) (fun _ _ _ _ h => h)) (pa_cons (pv 1) (pa_cons (pv 2) pa_nil))) rfl)
      (pss_one ps_never)), ?_⟩
    exact ⟨_, rfl, _, rfl, fun sh dx nsh ndx nn => ⟨_, a, st, rfl, d.made nsh ndx⟩⟩
theorem sc_stpD : FnScope ["page", "style", "steps", "sheet", "many", "step"] ["page", "style", "steps"] (defScope s_stepped) := ⟨rfl, rfl, rfl, by decide +kernel, rfl, by decide +kernel, by decide +kernel⟩
theorem ok_stpD {f gC : Addr} {fd fdC : FuncData} (F : Fun K "stepped" "stepped" s_stepped f fd)
    (MC : Mk K S gC) (GC : FnOk P w K mg base (L2.CX P w) 12 gC fdC ["self", "page", "style"] (spI3 K cs)) (bC : Binds K fdC ["self", "page", "style"] []) (mC : mg "Sheet" = some (.ref S)) :
    FnOk P w K mg base (L2.CX P w) 14 f fd ["page", "style", "steps"] (spD3 K cs) := by
  refine F.okX sc_stpD (fun vs H Q E h => ?_) (fun cdv A outer s H vs Q E hr h => ?_)
  · obtain ⟨a, st, x, rfl, _⟩ := h
    rfl
  · obtain ⟨a, st, x, rfl, d⟩ := h
    have nd := (sc_stpD).nd
    have r13 : Room 13 _ := hr.mono (by decide)
    refine ⟨_, (pss_cons (ps_set (i := 3) nd rfl (.inl rfl) (pe_make MC GC r13 (by rfl) mC bC .nil (passes_call (takes_of rfl rfl rfl rfl) (fun _ _ _ _ h => h)) (pa_cons (pv 0) (pa_cons (pv 1) pa_nil))))
      (pss_cons ps_never
      (pss_cons ps_never
      (pss_cons ps_never
      (pss_one ps_never))))), ?_⟩
    exact ⟨_, rfl, _, rfl, fun sh dx nsh ndx nn => ⟨_, a, st, rfl, d.made nsh ndx⟩⟩
theorem sc_mmD : FnScope ["page", "style", "number", "row", "sheet"] ["page", "style", "number", "row"] (defScope s_many_moved) := ⟨rfl, rfl, rfl, by decide +kernel, rfl, by decide +kernel, by decide +kernel⟩
theorem ok_mmD {f gC : Addr} {fd fdC : FuncData} (F : Fun K "many_moved" "many_moved" s_many_moved f fd)
    (MC : Mk K S gC) (GC : FnOk P w K mg base (L2.CX P w) 12 gC fdC ["self", "page", "style"] (spI3 K cs)) (bC : Binds K fdC ["self", "page", "style"] []) (mC : mg "Sheet" = some (.ref S)) :
    FnOk P w K mg base (L2.CX P w) 14 f fd ["page", "style", "number", "row"] (spD4 K cs) := by
  refine F.okX sc_mmD (fun vs H Q E h => ?_) (fun cdv A outer s H vs Q E hr h => ?_)
  · obtain ⟨a, st, x, y, rfl, _⟩ := h
    rfl
  · obtain ⟨a, st, x, y, rfl, d⟩ := h
    have nd := (sc_mmD).nd
    have r13 : Room 13 _ := hr.mono (by decide)
    refine ⟨_, (pss_cons (ps_set (i := 4) nd rfl (.inl rfl) (pe_make MC GC r13 (by rfl) mC bC .nil (passes_call (takes_of rfl rfl rfl rfl) (fun _ _ _ _ h => h)) (pa_cons (pv 0) (pa_cons (pv 1) pa_nil))))
      (pss_one ps_never)), ?_⟩
    exact ⟨_, rfl, _, rfl, fun sh dx nsh ndx nn => ⟨_, a, st, rfl, d.made nsh ndx⟩⟩
theorem sc_wrD : FnScope ["page"] ["page"] (defScope s_written) := ⟨rfl, rfl, rfl, by decide +kernel, rfl, by decide +kernel, by decide +kernel⟩
theorem ok_wrD {f gP : Addr} {fd fdP : FuncData} (eP : C = He.ga K (nmE 0)) (F : Fun K "written" "written" s_written f fd)
    (GP : FnOk P w K mg base (L2.CX P w) 11 gP fdP ["page"] (orSp (spPageX K cs C) (spCheck K cs))) (kP : PySem.W.keepIn K (.ref gP) = true) (bP : Binds K fdP ["page"] []) (mP : mg "check_page" = some (.ref gP)) :
    FnOk P w K mg base (L2.CX P w) 12 f fd ["page"] (spWritX K cs) := by
  refine F.okX sc_wrD (fun vs H Q E h => ?_) (fun cdv A outer s H vs Q E hr h => ?_)
  · obtain ⟨a, m, rfl, _⟩ := h
    rfl
  · obtain ⟨a, m, rfl, hT, hb, hE⟩ := h
    have nd := (sc_wrD).nd
    have r11 : Room 11 _ := hr.mono (by decide)
    refine ⟨_, (pss_cons (ps_expr (pe_callS GP r11 (by rfl) mP kP bP (fun σ => passAt (takes_of rfl rfl rfl rfl) σ) (pa_cons (pv 0) pa_nil)))
      (pss_one ps_never)), ?_⟩
    exact ⟨_, rfl, .inl ⟨a, m, rfl, hT, hb, fun d H' x nd hd => hE _ _ _ (err_row eP hd) x⟩⟩
end
end TGK

namespace TGK
open TG
open PySem PySem.Spec PyProof.Rows L2 NdefX GenW Gx Lv Dl EnT
section
variable {P : Program} {w : World} {K : PySem.W.Frag} {mg : Str → Option Value} {base : Heap} {cs : List (Addr × Addr)} {S U B C G : Addr}
abbrev nmPlD : List Str := ["page", "style", "row", "moves", "many", "number"]
theorem sc_plD : FnScope ["page", "style", "row", "moves", "many", "number"] ["page", "style", "row"] (defScope s_placed) := ⟨rfl, rfl, rfl, by decide +kernel, rfl, by decide +kernel, by decide +kernel⟩
theorem ok_plD {f gP gm : Addr} {fd fdP fdm : FuncData} (T : Txt mg) (eP : C = He.ga K (nmE 0)) (F : Fun K "placed" "placed" s_placed f fd)
    (GP : FnOk P w K mg base (L2.CX P w) 11 gP fdP ["page"] (orSp (spPageX K cs C) (spCheck K cs))) (kP : PySem.W.keepIn K (.ref gP) = true) (bP : Binds K fdP ["page"] []) (mP : mg "check_page" = some (.ref gP))
    (Gm : FnOk P w K mg base (L2.CX P w) 14 gm fdm ["page", "style", "number", "row"] (spD4 K cs)) (km : PySem.W.keepIn K (.ref gm) = true) (bm : Binds K fdm ["page", "style", "number", "row"] []) (mm : mg "many_moved" = some (.ref gm)) :
    FnOk P w K mg base (L2.CX P w) 16 f fd ["page", "style", "row"] (spD3 K cs) := by
  refine F.okX sc_plD (fun vs H Q E h => ?_) (fun cdv A outer s H vs Q E hr h => ?_)
  · obtain ⟨a, st, x, rfl, _⟩ := h
    rfl
  · obtain ⟨a, st, x, rfl, hT, j, n, hb, hE⟩ := h
    have nd := sc_plD.nd
    have r11 : Room 11 _ := hr.mono (by decide)
    have r14 : Room 14 _ := hr.mono (by decide)
    have szl : (9000 : Nat) < sizeLine := by decide
    refine ⟨_, (pss_cons (ps_expr (pe_callS GP r11 (by rfl) mP kP bP (fun σ => passAt (takes_of rfl rfl rfl rfl) σ) (pa_cons (pv 0) pa_nil)))
      (pss_cons (ps_setLcX (i := 3) (own := [("number", 5)]) (g := gName 5) (tt := tYes) rfl nd rfl rfl (takes_of rfl rfl rfl rfl) rfl rfl (sw_true rfl rfl rfl (by decide +kernel)) (pi_range1 (by rfl) T.range (pa_cons (pe_op op_add (pe_callB call_len_seq (by rfl) T.len PySem.boot_len (pa_cons (pv 0) pa_nil)) pe_int) pa_nil)) (blkOk_by (own := [("number", 5)]) (N := nmPlD) (sc := defScope s_placed) (by decide +kernel))
        (fun _ _ _ _ _ => pg_name (i := 5) nd rfl (Or.inl rfl)) (fun _ _ _ _ _ => pts_nil) (fun s1 H1 C1 cl1 fp1 px => pe_callS Gm r14 (by rfl) mm km bm px (pa_cons (pv 0) (pa_cons (pv 1) (pa_cons (pv 5) (pa_cons (pv 2) pa_nil))))))
      (pss_cons ps_never (pss_one ps_never)))), ?_⟩
    rcases hb with ⟨rfl, m, rfl, hb⟩ | ⟨rfl, rfl, hg, hS⟩
    · exact ⟨_, rfl, .inl ⟨a, m, rfl, hT, hb, fun d H' x nd hd => hE _ _ _ (err_row eP hd) x⟩⟩
    · obtain ⟨pg, as, rows, rfl, hP, hO⟩ := hg
      have h1 := hO.pos
      have h30 := hO.len
      refine ⟨_, rfl, .inr ⟨pg, as, rows, rfl, hT, hP, hO, fun H1 x1 => ?_⟩⟩
      refine ⟨_, rfl, pg, _, rfl, .inl (x1.sqL hP.1), _, _, rfl, rfl, ?_⟩
      have la : (as.map V.ref).length = rows.length := by rw [List.length_map, hP.len]
      rw [la]
      refine ⟨_, rfl, by omega, by omega, fun D nD => lc_range (n := rows.length + 1) (fun i H' => i = 0 ∧ Ex cs H H') ⟨rfl, ex_new hT x1 (x1.old _ nD)⟩ ?_ ?_⟩
      · rintro i H4 hi ⟨_, x4⟩
        refine ⟨rfl, _, rfl, _, rfl, _, rfl, _, rfl, ?_⟩
        exact ⟨_, _, _, _, rfl, x4.tab, 1, 0, .inr ⟨rfl, rfl, GoodP.gw ⟨pg, as, rows, rfl, hP, hO⟩ x4.ext, hS.gw x4.ext⟩, hE.after x4⟩
      · rintro H3 ⟨e, _⟩
        omega
/-! ### gap_within -/
def spGapD (K : PySem.W.Frag) (cs : List (Addr × Addr)) : Sp := fun vs H _ E => ∃ a lv mv, vs = [a, lv, mv] ∧ Tabs cs H ∧ ∃ (j : Nat) (n : Int), ((j = 0 ∧ ∃ m : Nat, n = ((m : Nat) : Int) ∧ BadPg K H a m) ∨ (j = 1 ∧ n = 0 ∧ GoodP K H a ∧ NoWh 0 12 lv)) ∧ Lets K cs H E j n
theorem sc_gapD : FnScope ["page", "least", "most", "gap"] ["page", "least", "most"] (defScope s_gap_within) := ⟨rfl, rfl, rfl, by decide +kernel, rfl, by decide +kernel, by decide +kernel⟩
theorem ok_gapD {f gP gS : Addr} {fd fdP fdS : FuncData} (eP : C = He.ga K (nmE 0)) (eB : B = He.ga K (nmE 1)) (F : Fun K "gap_within" "gap_within" s_gap_within f fd)
    (GP : FnOk P w K mg base (L2.CX P w) 11 gP fdP ["page"] (orSp (spPageX K cs C) (spCheck K cs))) (kP : PySem.W.keepIn K (.ref gP) = true) (bP : Binds K fdP ["page"] []) (mP : mg "check_page" = some (.ref gP))
    (GS : FnOk P w K mg base (L2.CX P w) 2 gS fdS ["style"] (spStyleB B)) (kS : PySem.W.keepIn K (.ref gS) = true) (bS : Binds K fdS ["style"] []) (mS : mg "check_style" = some (.ref gS)) :
    FnOk P w K mg base (L2.CX P w) 12 f fd ["page", "least", "most"] (spGapD K cs) := by
  refine F.okX sc_gapD (fun vs H Q E h => ?_) (fun cdv A outer s H vs Q E hr h => ?_)
  · obtain ⟨a, st, x, rfl, _⟩ := h
    rfl
  · obtain ⟨a, lv, mv, rfl, hT, j, n, hb, hE⟩ := h
    have nd := sc_gapD.nd
    have r11 : Room 11 _ := hr.mono (by decide)
    have r2 : Room 2 _ := hr.mono (by decide)
    refine ⟨_, (pss_cons (ps_expr (pe_callS GP r11 (by rfl) mP kP bP (fun σ => passAt (takes_of rfl rfl rfl rfl) σ) (pa_cons (pv 0) pa_nil)))
      (pss_cons (ps_expr (pe_callS GS r2 (by rfl) mS kS bS (fun σ => passAt (takes_of rfl rfl rfl rfl) σ) (pa_cons (pe_tup (pa_cons pe_int (pa_cons (pv 1) pa_nil))) pa_nil)))
      (pss_cons ps_never
      (pss_cons ps_never
      (pss_one ps_never))))), ?_⟩
    rcases hb with ⟨rfl, m, rfl, hb⟩ | ⟨rfl, rfl, hg, hl⟩
    · exact ⟨_, rfl, .inl ⟨a, m, rfl, hT, hb, fun d H' x nd hd => hE _ _ _ (err_row eP hd) x⟩⟩
    · obtain ⟨pg, as, rows, rfl, hP, hO⟩ := hg
      refine ⟨_, rfl, .inr ⟨pg, as, rows, rfl, hT, hP, hO, fun H1 x1 => ⟨_, rfl, by show 2 ≤ sizeLine; decide, fun t nt => ?_⟩⟩⟩
      exact ⟨_, rfl, .inr (.inr (.inr ⟨t, _, rfl, upd_same, .inr ⟨_, _, rfl, .inr ⟨⟨0, rfl, by decide, by decide⟩, hl⟩⟩⟩)), hE _ _ _ (err_one eB) (x1.trans (Ex.laid x1.tab nt))⟩
/-! ### route -/
def spRouteD (K : PySem.W.Frag) (cs : List (Addr × Addr)) : Sp := fun vs H _ E => ∃ a u, vs = [a, u] ∧ Tabs cs H ∧ ∃ m : Nat, (BadPg K H a m ∨ GoodP K H a ∧ BadPg K H u m) ∧ Lets K cs H E 0 ((m : Nat) : Int)
theorem sc_rouD : FnScope ["page", "other", "plans", "here", "there", "found"] ["page", "other"] (defScope s_route) := ⟨rfl, rfl, rfl, by decide +kernel, rfl, by decide +kernel, by decide +kernel⟩
theorem ok_rouD {f gP : Addr} {fd fdP : FuncData} (eP : C = He.ga K (nmE 0)) (F : Fun K "route" "route" s_route f fd)
    (GP : FnOk P w K mg base (L2.CX P w) 11 gP fdP ["page"] (orSp (spPageX K cs C) (spCheck K cs))) (kP : PySem.W.keepIn K (.ref gP) = true) (bP : Binds K fdP ["page"] []) (mP : mg "check_page" = some (.ref gP)) :
    FnOk P w K mg base (L2.CX P w) 12 f fd ["page", "other"] (spRouteD K cs) := by
  refine F.okX sc_rouD (fun vs H Q E h => ?_) (fun cdv A outer s H vs Q E hr h => ?_)
  · obtain ⟨a, u, rfl, _⟩ := h
    rfl
  · obtain ⟨a, u, rfl, hT, m, hb, hE⟩ := h
    have nd := sc_rouD.nd
    have r11 : Room 11 _ := hr.mono (by decide)
    refine ⟨_, (pss_cons (ps_expr (pe_callS GP r11 (by rfl) mP kP bP (fun σ => passAt (takes_of rfl rfl rfl rfl) σ) (pa_cons (pv 0) pa_nil)))
      (pss_cons (ps_expr (pe_callS GP r11 (by rfl) mP kP bP (fun σ => passAt (takes_of rfl rfl rfl rfl) σ) (pa_cons (pv 1) pa_nil)))
      (pss_cons ps_never
      (pss_cons ps_never
      (pss_one ps_never))))), ?_⟩
    rcases hb with hb | ⟨hg, hb⟩
    · exact ⟨_, rfl, .inl ⟨a, m, rfl, hT, hb, fun d H' x nd hd => hE _ _ _ (err_row eP hd) x⟩⟩
    · obtain ⟨pg, as, rows, rfl, hP, hO⟩ := hg
      exact ⟨_, rfl, .inr ⟨pg, as, rows, rfl, hT, hP, hO, fun H1 x1 => ⟨_, rfl, .inl ⟨u, m, rfl, x1.tab, hb.gw x1.ext, fun d H' x nd hd => hE _ _ _ (err_row eP hd) (x1.trans x)⟩⟩⟩⟩
/-! ### a table -/
theorem sc_tinD : FnScope ["self", "page", "style", "hands", "text", "hand"] ["self", "page", "style", "hands"] (defScope (mth nTable 0)) := ⟨rfl, rfl, rfl, by decide +kernel, rfl, by decide +kernel, by decide +kernel⟩
theorem ok_tinD {f gW gS : Addr} {fd fdW fdS : FuncData} (eB : B = He.ga K (nmE 1)) (F : Fun K "__init__" "Table.__init__" (mth nTable 0) f fd)
    (GW : FnOk P w K mg base (L2.CX P w) 12 gW fdW ["page"] (orSp (spWritX K cs) (spWrit K cs))) (kW : PySem.W.keepIn K (.ref gW) = true) (bW : Binds K fdW ["page"] []) (mW : mg "written" = some (.ref gW))
    (GS : FnOk P w K mg base (L2.CX P w) 2 gS fdS ["style"] (spStyleB B)) (kS : PySem.W.keepIn K (.ref gS) = true) (bS : Binds K fdS ["style"] []) (mS : mg "check_style" = some (.ref gS)) :
    FnOk P w K mg base (L2.CX P w) 14 f fd ["self", "page", "style", "hands"] (spI4 K cs) := by
  refine F.okX sc_tinD (fun vs H Q E h => ?_) (fun cdv A outer s H vs Q E hr h => ?_)
  · obtain ⟨s0, a, st, x, rfl, _⟩ := h
    rfl
  · obtain ⟨s0, a, st, x, rfl, hT, j, n, hb, hE⟩ := h
    have nd := sc_tinD.nd
    have r12 : Room 12 _ := hr.mono (by decide)
    have r2 : Room 2 _ := hr.mono (by decide)
    refine ⟨_, (pss_cons (ps_set (i := 4) nd rfl (.inl rfl) (pe_callS GW r12 (by rfl) mW kW bW (fun σ => passAt (takes_of rfl rfl rfl rfl) σ) (pa_cons (pv 1) pa_nil)))
      (pss_cons (ps_expr (pe_callS GS r2 (by rfl) mS kS bS (fun σ => passAt (takes_of rfl rfl rfl rfl) σ) (pa_cons (pv 2) pa_nil)))
      (pss_cons ps_never
      (pss_cons ps_never
      (pss_cons ps_never
      (pss_cons ps_never
      (pss_cons ps_never
      (pss_cons ps_never
      (pss_cons ps_never
      (pss_one ps_never)))))))))), ?_⟩
    rcases hb with ⟨rfl, m, rfl, hb⟩ | ⟨rfl, rfl, hg, hS⟩
    · exact ⟨_, rfl, .inl ⟨a, m, rfl, hT, hb, hE⟩⟩
    · obtain ⟨pg, as, rows, rfl, hP, hO⟩ := hg
      exact ⟨_, rfl, .inr ⟨pg, as, rows, rfl, hT, hP, hO, fun H1 x1 => ⟨_, rfl, st, rfl, hS.gw x1.ext, hE _ _ _ (err_one eB) x1⟩⟩⟩
end
end TGK

namespace TGK
open TG
open PySem PySem.Spec PyProof.Rows L2 NdefX GenW Gx Lv Dl EnT
/-! ### the law's own works -/
def noE0 : Expr := .Name "x" ⟨0, 0, 0, 0⟩
def eNth (l : List Expr) (i : Nat) : Expr := l.getD i noE0
def eEls : Expr → List Expr
  | .List es _ => es
  | _ => []
def eArgs : Expr → List Expr
  | .UnaryOp _ (.Call _ es _ _) _ => es
  | _ => []
def ifT : Stmt → Expr
  | .If t _ _ _ => t
  | _ => noE0
def ifBl : Stmt → List Stmt
  | .If _ b _ _ => b
  | _ => []
def asV : Stmt → Expr
  | .Assign _ v _ => v
  | _ => noE0
def asR : Stmt → Expr
  | .Return (some e) _ => e
  | _ => noE0
def binR : Expr → Expr
  | .BinOp _ _ r _ => r
  | _ => noE0
def boolN : Expr → Nat → Expr
  | .BoolOp _ es _, i => es.getD i noE0
  | _, _ => noE0
def lamApp : Stmt → TGK.LamT
  | .Expr (.Call _ [e] _ _) _ => TGK.lamOf e
  | _ => TGK.lam00
def forB : Stmt → List Stmt
  | .For _ _ b _ _ => b
  | _ => []
abbrev fr_d1 : List Str := ["_law_page_here", "_law_style_here"]
abbrev lm_d1 : TGK.LamT := TGK.lamOf (eNth (eEls (asV (TGK.stAt (defBody s_doors) 0))) 0)
theorem sc_d1 : NScope ["_law_page_here", "_law_style_here"] [] fr_d1 lm_d1.2.2 := nscope_by (by decide +kernel)
theorem kl_d1 : ∀ y ∈ lm_d1.2.2.names, y.2 = .free → (defScope s_doors).names.lookup y.1 = some .cell := by decide +kernel
abbrev fr_d2 : List Str := ["_law_page_here", "_law_style_here"]
abbrev lm_d2 : TGK.LamT := TGK.lamOf (eNth (eEls (asV (TGK.stAt (defBody s_doors) 0))) 1)
theorem sc_d2 : NScope ["_law_a", "_law_page_here", "_law_style_here"] ["_law_a"] fr_d2 lm_d2.2.2 := nscope_by (by decide +kernel)
theorem kl_d2 : ∀ y ∈ lm_d2.2.2.names, y.2 = .free → (defScope s_doors).names.lookup y.1 = some .cell := by decide +kernel
theorem key_d2 : lm_d2.2.2.names.lookup ("_law_a" : Str) = some .local := by decide +kernel
abbrev fr_d3 : List Str := ["_law_page_here", "_law_style_here"]
abbrev lm_d3 : TGK.LamT := TGK.lamOf (eNth (eEls (asV (TGK.stAt (defBody s_doors) 0))) 2)
theorem sc_d3 : NScope ["_law_b", "_law_page_here", "_law_style_here"] ["_law_b"] fr_d3 lm_d3.2.2 := nscope_by (by decide +kernel)
theorem kl_d3 : ∀ y ∈ lm_d3.2.2.names, y.2 = .free → (defScope s_doors).names.lookup y.1 = some .cell := by decide +kernel
theorem key_d3 : lm_d3.2.2.names.lookup ("_law_b" : Str) = some .local := by decide +kernel
abbrev fr_d4 : List Str := ["_law_page_here", "_law_style_here"]
abbrev lm_d4 : TGK.LamT := TGK.lamOf (eNth (eEls (binR (asV (TGK.stAt (defBody s_doors) 1)))) 0)
theorem sc_d4 : NScope ["_law_c", "_law_page_here", "_law_style_here"] ["_law_c"] fr_d4 lm_d4.2.2 := nscope_by (by decide +kernel)
theorem kl_d4 : ∀ y ∈ lm_d4.2.2.names, y.2 = .free → (defScope s_doors).names.lookup y.1 = some .cell := by decide +kernel
theorem key_d4 : lm_d4.2.2.names.lookup ("_law_c" : Str) = some .local := by decide +kernel
abbrev fr_d5 : List Str := ["_law_page_here", "_law_style_here"]
abbrev lm_d5 : TGK.LamT := TGK.lamOf (eNth (eEls (binR (asV (TGK.stAt (defBody s_doors) 1)))) 1)
theorem sc_d5 : NScope ["_law_d", "_law_page_here", "_law_style_here"] ["_law_d"] fr_d5 lm_d5.2.2 := nscope_by (by decide +kernel)
theorem kl_d5 : ∀ y ∈ lm_d5.2.2.names, y.2 = .free → (defScope s_doors).names.lookup y.1 = some .cell := by decide +kernel
theorem key_d5 : lm_d5.2.2.names.lookup ("_law_d" : Str) = some .local := by decide +kernel
abbrev fr_d6 : List Str := ["_law_page_here", "_law_style_here"]
abbrev lm_d6 : TGK.LamT := lamApp (TGK.stAt (defBody s_doors) 2)
theorem sc_d6 : NScope ["_law_f", "_law_page_here", "_law_style_here"] ["_law_f"] fr_d6 lm_d6.2.2 := nscope_by (by decide +kernel)
theorem kl_d6 : ∀ y ∈ lm_d6.2.2.names, y.2 = .free → (defScope s_doors).names.lookup y.1 = some .cell := by decide +kernel
theorem key_d6 : lm_d6.2.2.names.lookup ("_law_f" : Str) = some .local := by decide +kernel
abbrev fr_d7 : List Str := ["_law_page_here", "_law_style_here"]
abbrev lm_d7 : TGK.LamT := TGK.lamOf (eNth (eEls (binR (asV (TGK.stAt (defBody s_doors) 3)))) 0)
theorem sc_d7 : NScope ["_law_g", "_law_page_here", "_law_style_here"] ["_law_g"] fr_d7 lm_d7.2.2 := nscope_by (by decide +kernel)
theorem kl_d7 : ∀ y ∈ lm_d7.2.2.names, y.2 = .free → (defScope s_doors).names.lookup y.1 = some .cell := by decide +kernel
theorem key_d7 : lm_d7.2.2.names.lookup ("_law_g" : Str) = some .local := by decide +kernel
abbrev fr_d8 : List Str := ["_law_page_here", "_law_style_here"]
abbrev lm_d8 : TGK.LamT := TGK.lamOf (eNth (eEls (binR (asV (TGK.stAt (defBody s_doors) 3)))) 1)
theorem sc_d8 : NScope ["_law_h", "_law_page_here", "_law_style_here"] ["_law_h"] fr_d8 lm_d8.2.2 := nscope_by (by decide +kernel)
theorem kl_d8 : ∀ y ∈ lm_d8.2.2.names, y.2 = .free → (defScope s_doors).names.lookup y.1 = some .cell := by decide +kernel
theorem key_d8 : lm_d8.2.2.names.lookup ("_law_h" : Str) = some .local := by decide +kernel
abbrev fr_d9 : List Str := ["_law_page_here", "_law_style_here"]
abbrev lm_d9 : TGK.LamT := TGK.lamOf (eNth (eEls (binR (asR (TGK.stAt (defBody s_doors) 4)))) 0)
theorem sc_d9 : NScope ["_law_i", "_law_page_here", "_law_style_here"] ["_law_i"] fr_d9 lm_d9.2.2 := nscope_by (by decide +kernel)
theorem kl_d9 : ∀ y ∈ lm_d9.2.2.names, y.2 = .free → (defScope s_doors).names.lookup y.1 = some .cell := by decide +kernel
theorem key_d9 : lm_d9.2.2.names.lookup ("_law_i" : Str) = some .local := by decide +kernel
abbrev fr_d10 : List Str := ["_law_page_here", "_law_style_here"]
abbrev lm_d10 : TGK.LamT := TGK.lamOf (eNth (eEls (binR (asR (TGK.stAt (defBody s_doors) 4)))) 1)
theorem sc_d10 : NScope ["_law_j", "_law_page_here", "_law_style_here"] ["_law_j"] fr_d10 lm_d10.2.2 := nscope_by (by decide +kernel)
theorem kl_d10 : ∀ y ∈ lm_d10.2.2.names, y.2 = .free → (defScope s_doors).names.lookup y.1 = some .cell := by decide +kernel
theorem key_d10 : lm_d10.2.2.names.lookup ("_law_j" : Str) = some .local := by decide +kernel
abbrev fr_l1 : List Str := ["_law_bad"]
abbrev lm_l1 : TGK.LamT := TGK.lamOf (eNth (eEls (binR (asV (TGK.stAt (forB (TGK.stAt (defBody s_law) 1)) 2)))) 0)
theorem sc_l1 : NScope ["_law_bad"] [] fr_l1 lm_l1.2.2 := nscope_by (by decide +kernel)
theorem kl_l1 : ∀ y ∈ lm_l1.2.2.names, y.2 = .free → (defScope s_law).names.lookup y.1 = some .cell := by decide +kernel
abbrev fr_l2 : List Str := ["_law_bad"]
abbrev lm_l2 : TGK.LamT := TGK.lamOf (eNth (eEls (binR (asV (TGK.stAt (forB (TGK.stAt (defBody s_law) 1)) 2)))) 1)
theorem sc_l2 : NScope ["_law_a", "_law_bad"] ["_law_a"] fr_l2 lm_l2.2.2 := nscope_by (by decide +kernel)
theorem kl_l2 : ∀ y ∈ lm_l2.2.2.names, y.2 = .free → (defScope s_law).names.lookup y.1 = some .cell := by decide +kernel
theorem key_l2 : lm_l2.2.2.names.lookup ("_law_a" : Str) = some .local := by decide +kernel
abbrev fr_l3 : List Str := ["_law_bad"]
abbrev lm_l3 : TGK.LamT := TGK.lamOf (eNth (eEls (binR (asV (TGK.stAt (forB (TGK.stAt (defBody s_law) 1)) 3)))) 0)
theorem sc_l3 : NScope ["_law_b", "_law_bad"] ["_law_b"] fr_l3 lm_l3.2.2 := nscope_by (by decide +kernel)
theorem kl_l3 : ∀ y ∈ lm_l3.2.2.names, y.2 = .free → (defScope s_law).names.lookup y.1 = some .cell := by decide +kernel
theorem key_l3 : lm_l3.2.2.names.lookup ("_law_b" : Str) = some .local := by decide +kernel
abbrev fr_l4 : List Str := ["_law_good", "_law_bad"]
abbrev lm_l4 : TGK.LamT := TGK.lamOf (eNth (eEls (binR (asV (TGK.stAt (forB (TGK.stAt (defBody s_law) 1)) 3)))) 1)
theorem sc_l4 : NScope ["_law_c", "_law_good", "_law_bad"] ["_law_c"] fr_l4 lm_l4.2.2 := nscope_by (by decide +kernel)
theorem kl_l4 : ∀ y ∈ lm_l4.2.2.names, y.2 = .free → (defScope s_law).names.lookup y.1 = some .cell := by decide +kernel
theorem key_l4 : lm_l4.2.2.names.lookup ("_law_c" : Str) = some .local := by decide +kernel
abbrev fr_l5 : List Str := ["_law_good", "_law_wrong"]
abbrev lm_l5 : TGK.LamT := TGK.lamOf (eNth (eEls (eNth (eArgs (ifT (TGK.stAt (forB (TGK.stAt (defBody s_law) 1)) 12))) 0)) 0)
theorem sc_l5 : NScope ["_law_good", "_law_wrong"] [] fr_l5 lm_l5.2.2 := nscope_by (by decide +kernel)
theorem kl_l5 : ∀ y ∈ lm_l5.2.2.names, y.2 = .free → (defScope s_law).names.lookup y.1 = some .cell := by decide +kernel
section
variable {P : Program} {w : World} {K : PySem.W.Frag} {mg : Str → Option Value} {base : Heap} {cs : List (Addr × Addr)} {S : Addr}
def rw_d1 (sp : Sp) : TGK.RW := fun ws H Q E => ∃ (v0 v1 : V), ws = [some v0, some v1] ∧ sp [v0, v1] H Q E
theorem lok_d1 {k : Nat} {q : Str} {c' f g : Addr} {fdg : FuncData} {lc : List (Str × Addr)} {sp : Sp} (G : FnOk P w K mg base (L2.CX P w) k g fdg ["page", "style"] sp) (kg : PySem.W.keepIn K (.ref g) = true) (bd : Binds K fdg ["page", "style"] []) (mm : mg "stretches" = some (.ref g)) :
    LamW P w K mg base (k + 1) f (HfL f ⟨"<lambda>", q, lm_d1.1, [], lm_d1.2.2, lc, c'⟩ lm_d1.2.1) (TGK.spLamR fr_d1 (rw_d1 sp) ⟨"<lambda>", q, lm_d1.1, [], lm_d1.2.2, lc, c'⟩) := by
  refine lamw_l (lokx_of (N := fr_d1) (fr := fr_d1) sc_d1 (fun pm ctv => rfl) fun A outer s H Q E hr h => ?_)
  obtain ⟨_, ws, cl, hC, v0, v1, rfl, hsp⟩ := h
  have szl : (1000 : Nat) < sizeLine := by decide
  refine ⟨_, cl, _, hC, pe_callS G hr (by rfl) mm kg bd (fun σ => passAt (takes_of rfl rfl rfl rfl) σ) (pa_cons (pv 0) (pa_cons (pv 1) pa_nil)), ?_⟩
  exact ⟨_, rfl, _, rfl, hsp⟩
def rw_d2 (sp : Sp) : TGK.RW := fun ws H Q E => ∃ (v0 v1 : V), ws = [some v0, some v1] ∧ sp [v0, v1] H Q E
theorem lok_d2 {k : Nat} {q : Str} {c' f g t : Addr} {fdg : FuncData} {lc : List (Str × Addr)} {v9 : V} {sp : Sp} (G : FnOk P w K mg base (L2.CX P w) k g fdg ["page", "style"] sp) (kg : PySem.W.keepIn K (.ref g) = true) (bd : Binds K fdg ["page", "style"] []) (mm : mg "stops" = some (.ref g)) :
    LamW P w K mg base (k + 1) f (HfD f ⟨"<lambda>", q, lm_d2.1, [], lm_d2.2.2, lc, c'⟩ lm_d2.2.1 t v9) (TGK.spLamR fr_d2 (rw_d2 sp) ⟨"<lambda>", q, lm_d2.1, [], lm_d2.2.2, lc, c'⟩) := by
  refine lamw_d (N := ["_law_a", "_law_page_here", "_law_style_here"]) (fr := fr_d2) (nm := "_law_a") sc_d2 rfl rfl rfl rfl rfl key_d2 fun A outer s H Q E hr h => ?_
  obtain ⟨_, ws, cl, hC, v0, v1, rfl, hsp⟩ := h
  have szl : (1000 : Nat) < sizeLine := by decide
  refine ⟨_, cl, _, hC, pe_callS G hr (by rfl) mm kg bd (fun σ => passAt (takes_of rfl rfl rfl rfl) σ) (pa_cons (pv 1) (pa_cons (pv 2) pa_nil)), ?_⟩
  exact ⟨_, rfl, _, rfl, hsp⟩
def rw_d3 (sp : Sp) : TGK.RW := fun ws H Q E => ∃ (v0 v1 : V), ws = [some v0, some v1] ∧ sp [v0, v1] H Q E
theorem lok_d3 {k : Nat} {q : Str} {c' f g t : Addr} {fdg : FuncData} {lc : List (Str × Addr)} {v9 : V} {sp : Sp} (G : FnOk P w K mg base (L2.CX P w) k g fdg ["page", "style"] sp) (kg : PySem.W.keepIn K (.ref g) = true) (bd : Binds K fdg ["page", "style"] []) (mm : mg "laid" = some (.ref g)) :
    LamW P w K mg base (k + 1) f (HfD f ⟨"<lambda>", q, lm_d3.1, [], lm_d3.2.2, lc, c'⟩ lm_d3.2.1 t v9) (TGK.spLamR fr_d3 (rw_d3 sp) ⟨"<lambda>", q, lm_d3.1, [], lm_d3.2.2, lc, c'⟩) := by
  refine lamw_d (N := ["_law_b", "_law_page_here", "_law_style_here"]) (fr := fr_d3) (nm := "_law_b") sc_d3 rfl rfl rfl rfl rfl key_d3 fun A outer s H Q E hr h => ?_
  obtain ⟨_, ws, cl, hC, v0, v1, rfl, hsp⟩ := h
  have szl : (1000 : Nat) < sizeLine := by decide
  refine ⟨_, cl, _, hC, pe_callS G hr (by rfl) mm kg bd (fun σ => passAt (takes_of rfl rfl rfl rfl) σ) (pa_cons (pv 1) (pa_cons (pv 2) pa_nil)), ?_⟩
  exact ⟨_, rfl, _, rfl, hsp⟩
def rw_d4 (sp : Sp) : TGK.RW := fun ws H Q E => ∃ (v0 v1 : V), ws = [some v0, some v1] ∧ sp [v0, v1] H Q E
theorem lok_d4 {k : Nat} {q : Str} {c' f g t : Addr} {fdg : FuncData} {lc : List (Str × Addr)} {v9 : V} {sp : Sp} (G : FnOk P w K mg base (L2.CX P w) k g fdg ["page", "style"] sp) (kg : PySem.W.keepIn K (.ref g) = true) (bd : Binds K fdg ["page", "style"] []) (mm : mg "shown" = some (.ref g)) :
    LamW P w K mg base (k + 1) f (HfD f ⟨"<lambda>", q, lm_d4.1, [], lm_d4.2.2, lc, c'⟩ lm_d4.2.1 t v9) (TGK.spLamR fr_d4 (rw_d4 sp) ⟨"<lambda>", q, lm_d4.1, [], lm_d4.2.2, lc, c'⟩) := by
  refine lamw_d (N := ["_law_c", "_law_page_here", "_law_style_here"]) (fr := fr_d4) (nm := "_law_c") sc_d4 rfl rfl rfl rfl rfl key_d4 fun A outer s H Q E hr h => ?_
  obtain ⟨_, ws, cl, hC, v0, v1, rfl, hsp⟩ := h
  have szl : (1000 : Nat) < sizeLine := by decide
  refine ⟨_, cl, _, hC, pe_callS G hr (by rfl) mm kg bd (fun σ => passAt (takes_of rfl rfl rfl rfl) σ) (pa_cons (pv 1) (pa_cons (pv 2) pa_nil)), ?_⟩
  exact ⟨_, rfl, _, rfl, hsp⟩
def rw_d5 (sp : Sp) : TGK.RW := fun ws H Q E => ∃ (v0 v1 : V), ws = [some v0, some v1] ∧ sp [v0, v1, .non] H Q E
theorem lok_d5 {k : Nat} {q : Str} {c' f g t : Addr} {fdg : FuncData} {lc : List (Str × Addr)} {v9 : V} {sp : Sp} (G : FnOk P w K mg base (L2.CX P w) k g fdg ["page", "style", "told"] sp) (kg : PySem.W.keepIn K (.ref g) = true) (bd : Binds K fdg ["page", "style", "told"] []) (mm : mg "judged" = some (.ref g)) :
    LamW P w K mg base (k + 1) f (HfD f ⟨"<lambda>", q, lm_d5.1, [], lm_d5.2.2, lc, c'⟩ lm_d5.2.1 t v9) (TGK.spLamR fr_d5 (rw_d5 sp) ⟨"<lambda>", q, lm_d5.1, [], lm_d5.2.2, lc, c'⟩) := by
  refine lamw_d (N := ["_law_d", "_law_page_here", "_law_style_here"]) (fr := fr_d5) (nm := "_law_d") sc_d5 rfl rfl rfl rfl rfl key_d5 fun A outer s H Q E hr h => ?_
  obtain ⟨_, ws, cl, hC, v0, v1, rfl, hsp⟩ := h
  have szl : (1000 : Nat) < sizeLine := by decide
  refine ⟨_, cl, _, hC, pe_callS G hr (by rfl) mm kg bd (fun σ => passAt (takes_of rfl rfl rfl rfl) σ) (pa_cons (pv 1) (pa_cons (pv 2) (pa_cons pe_non pa_nil))), ?_⟩
  exact ⟨_, rfl, _, rfl, hsp⟩
def rw_d6 (S : Addr) (sp : Sp) : TGK.RW := fun ws H Q E => ∃ (v0 v1 : V), ws = [some v0, some v1] ∧ ∀ x dx, H x = none → H dx = none → dx ≠ x → sp [.ref x, v0, v1] (upd (upd H dx (.own x)) x (.ins S dx [])) (fun v H2 => v = .non ∧ Q (.ref x) H2) E
theorem lok_d6 {k : Nat} {q : Str} {c' f g t : Addr} {fdg : FuncData} {lc : List (Str × Addr)} {v9 : V} {sp : Sp} (M : Mk K S g) (G : FnOk P w K mg base (L2.CX P w) k g fdg ["self", "page", "style"] sp) (bd : Binds K fdg ["self", "page", "style"] []) (mm : mg "Sheet" = some (.ref S)) :
    LamW P w K mg base (k + 2) f (HfD f ⟨"<lambda>", q, lm_d6.1, [], lm_d6.2.2, lc, c'⟩ lm_d6.2.1 t v9) (TGK.spLamR fr_d6 (rw_d6 S sp) ⟨"<lambda>", q, lm_d6.1, [], lm_d6.2.2, lc, c'⟩) := by
  refine lamw_d (N := ["_law_f", "_law_page_here", "_law_style_here"]) (fr := fr_d6) (nm := "_law_f") sc_d6 rfl rfl rfl rfl rfl key_d6 fun A outer s H Q E hr h => ?_
  obtain ⟨_, ws, cl, hC, v0, v1, rfl, hsp⟩ := h
  have szl : (1000 : Nat) < sizeLine := by decide
  refine ⟨_, cl, _, hC, pe_make M G hr (by rfl) mm bd .nil (passes_call (takes_of rfl rfl rfl rfl) (fun _ _ _ _ h => h)) (pa_cons (pv 1) (pa_cons (pv 2) pa_nil)), ?_⟩
  exact ⟨_, rfl, _, rfl, hsp⟩
def rw_d7 (S : Addr) (sp : Sp) : TGK.RW := fun ws H Q E => ∃ (v0 v1 : V), ws = [some v0, some v1] ∧ ∀ x dx, H x = none → H dx = none → dx ≠ x → sp [.ref x, v0, v1] (upd (upd H dx (.own x)) x (.ins S dx [])) (fun v H2 => v = .non ∧ Q (.ref x) H2) E
theorem lok_d7 {k : Nat} {q : Str} {c' f g t : Addr} {fdg : FuncData} {lc : List (Str × Addr)} {v9 : V} {sp : Sp} (M : Mk K S g) (G : FnOk P w K mg base (L2.CX P w) k g fdg ["self", "page", "style"] sp) (bd : Binds K fdg ["self", "page", "style"] []) (mm : mg "Cursor" = some (.ref S)) :
    LamW P w K mg base (k + 2) f (HfD f ⟨"<lambda>", q, lm_d7.1, [], lm_d7.2.2, lc, c'⟩ lm_d7.2.1 t v9) (TGK.spLamR fr_d7 (rw_d7 S sp) ⟨"<lambda>", q, lm_d7.1, [], lm_d7.2.2, lc, c'⟩) := by
  refine lamw_d (N := ["_law_g", "_law_page_here", "_law_style_here"]) (fr := fr_d7) (nm := "_law_g") sc_d7 rfl rfl rfl rfl rfl key_d7 fun A outer s H Q E hr h => ?_
  obtain ⟨_, ws, cl, hC, v0, v1, rfl, hsp⟩ := h
  have szl : (1000 : Nat) < sizeLine := by decide
  refine ⟨_, cl, _, hC, pe_make M G hr (by rfl) mm bd .nil (passes_call (takes_of rfl rfl rfl rfl) (fun _ _ _ _ h => h)) (pa_cons (pv 1) (pa_cons (pv 2) pa_nil)), ?_⟩
  exact ⟨_, rfl, _, rfl, hsp⟩
def rw_d8 (sp : Sp) : TGK.RW := fun ws H Q E => ∃ (v0 v1 : V), ws = [some v0, some v1] ∧ ∀ e l, H e = none → upd H e (.tup []) l = none → sp [v0, v1, .ref l] (upd (upd H e (.tup [])) l (.lst [.ref e])) Q E
theorem lok_d8 {k : Nat} {q : Str} {c' f g t : Addr} {fdg : FuncData} {lc : List (Str × Addr)} {v9 : V} {sp : Sp} (G : FnOk P w K mg base (L2.CX P w) k g fdg ["page", "style", "steps"] sp) (kg : PySem.W.keepIn K (.ref g) = true) (bd : Binds K fdg ["page", "style", "steps"] []) (mm : mg "stepped" = some (.ref g)) :
    LamW P w K mg base (k + 1) f (HfD f ⟨"<lambda>", q, lm_d8.1, [], lm_d8.2.2, lc, c'⟩ lm_d8.2.1 t v9) (TGK.spLamR fr_d8 (rw_d8 sp) ⟨"<lambda>", q, lm_d8.1, [], lm_d8.2.2, lc, c'⟩) := by
  refine lamw_d (N := ["_law_h", "_law_page_here", "_law_style_here"]) (fr := fr_d8) (nm := "_law_h") sc_d8 rfl rfl rfl rfl rfl key_d8 fun A outer s H Q E hr h => ?_
  obtain ⟨_, ws, cl, hC, v0, v1, rfl, hsp⟩ := h
  have szl : (1000 : Nat) < sizeLine := by decide
  refine ⟨_, cl, _, hC, pe_callS G hr (by rfl) mm kg bd (fun σ => passAt (takes_of rfl rfl rfl rfl) σ) (pa_cons (pv 1) (pa_cons (pv 2) (pa_cons (pe_lst (pa_cons (pe_tup pa_nil) pa_nil)) pa_nil))), ?_⟩
  exact ⟨_, rfl, _, rfl, small0, fun e ne => ⟨by show 1 ≤ sizeLine; decide, fun l nl => hsp e l ne nl⟩⟩
def rw_d9 (sp : Sp) : TGK.RW := fun ws H Q E => ∃ (v0 v1 : V), ws = [some v0, some v1] ∧ ∀ e, H e = none → sp [v0, v1, .ref e] (upd H e (.tup [])) Q E
theorem lok_d9 {k : Nat} {q : Str} {c' f g t : Addr} {fdg : FuncData} {lc : List (Str × Addr)} {v9 : V} {sp : Sp} (G : FnOk P w K mg base (L2.CX P w) k g fdg ["page", "style", "row"] sp) (kg : PySem.W.keepIn K (.ref g) = true) (bd : Binds K fdg ["page", "style", "row"] []) (mm : mg "placed" = some (.ref g)) :
    LamW P w K mg base (k + 1) f (HfD f ⟨"<lambda>", q, lm_d9.1, [], lm_d9.2.2, lc, c'⟩ lm_d9.2.1 t v9) (TGK.spLamR fr_d9 (rw_d9 sp) ⟨"<lambda>", q, lm_d9.1, [], lm_d9.2.2, lc, c'⟩) := by
  refine lamw_d (N := ["_law_i", "_law_page_here", "_law_style_here"]) (fr := fr_d9) (nm := "_law_i") sc_d9 rfl rfl rfl rfl rfl key_d9 fun A outer s H Q E hr h => ?_
  obtain ⟨_, ws, cl, hC, v0, v1, rfl, hsp⟩ := h
  have szl : (1000 : Nat) < sizeLine := by decide
  refine ⟨_, cl, _, hC, pe_callS G hr (by rfl) mm kg bd (fun σ => passAt (takes_of rfl rfl rfl rfl) σ) (pa_cons (pv 1) (pa_cons (pv 2) (pa_cons (pe_tup pa_nil) pa_nil))), ?_⟩
  exact ⟨_, rfl, _, rfl, small0, fun e ne => hsp e ne⟩
def rw_d10 (S : Addr) (sp : Sp) : TGK.RW := fun ws H Q E => ∃ (v0 v1 : V), ws = [some v0, some v1] ∧ ∀ x dx, H x = none → H dx = none → dx ≠ x → sp [.ref x, v0, v1, .int 0] (upd (upd H dx (.own x)) x (.ins S dx [])) (fun v H2 => v = .non ∧ Q (.ref x) H2) E
theorem lok_d10 {k : Nat} {q : Str} {c' f g t : Addr} {fdg : FuncData} {lc : List (Str × Addr)} {v9 : V} {sp : Sp} (M : Mk K S g) (G : FnOk P w K mg base (L2.CX P w) k g fdg ["self", "page", "style", "hands"] sp) (bd : Binds K fdg ["self", "page", "style", "hands"] []) (mm : mg "Table" = some (.ref S)) :
    LamW P w K mg base (k + 2) f (HfD f ⟨"<lambda>", q, lm_d10.1, [], lm_d10.2.2, lc, c'⟩ lm_d10.2.1 t v9) (TGK.spLamR fr_d10 (rw_d10 S sp) ⟨"<lambda>", q, lm_d10.1, [], lm_d10.2.2, lc, c'⟩) := by
  refine lamw_d (N := ["_law_j", "_law_page_here", "_law_style_here"]) (fr := fr_d10) (nm := "_law_j") sc_d10 rfl rfl rfl rfl rfl key_d10 fun A outer s H Q E hr h => ?_
  obtain ⟨_, ws, cl, hC, v0, v1, rfl, hsp⟩ := h
  have szl : (1000 : Nat) < sizeLine := by decide
  refine ⟨_, cl, _, hC, pe_make M G hr (by rfl) mm bd .nil (passes_call (takes_of rfl rfl rfl rfl) (fun _ _ _ _ h => h)) (pa_cons (pv 1) (pa_cons (pv 2) (pa_cons pe_int pa_nil))), ?_⟩
  exact ⟨_, rfl, _, rfl, hsp⟩
def rw_l1 (sp : Sp) : TGK.RW := fun ws H Q E => ∃ (v0 : V), ws = [some v0] ∧ sp [v0] H Q E
theorem lok_l1 {k : Nat} {q : Str} {c' f g : Addr} {fdg : FuncData} {lc : List (Str × Addr)} {sp : Sp} (G : FnOk P w K mg base (L2.CX P w) k g fdg ["page"] sp) (kg : PySem.W.keepIn K (.ref g) = true) (bd : Binds K fdg ["page"] []) (mm : mg "written" = some (.ref g)) :
    LamW P w K mg base (k + 1) f (HfL f ⟨"<lambda>", q, lm_l1.1, [], lm_l1.2.2, lc, c'⟩ lm_l1.2.1) (TGK.spLamR fr_l1 (rw_l1 sp) ⟨"<lambda>", q, lm_l1.1, [], lm_l1.2.2, lc, c'⟩) := by
  refine lamw_l (lokx_of (N := fr_l1) (fr := fr_l1) sc_l1 (fun pm ctv => rfl) fun A outer s H Q E hr h => ?_)
  obtain ⟨_, ws, cl, hC, v0, rfl, hsp⟩ := h
  have szl : (1000 : Nat) < sizeLine := by decide
  refine ⟨_, cl, _, hC, pe_callS G hr (by rfl) mm kg bd (fun σ => passAt (takes_of rfl rfl rfl rfl) σ) (pa_cons (pv 0) pa_nil), ?_⟩
  exact ⟨_, rfl, hsp⟩
def rw_l2 (sp : Sp) : TGK.RW := fun ws H Q E => ∃ (v0 : V), ws = [some v0] ∧ sp [v0, .int 99, .int 999] H Q E
theorem lok_l2 {k : Nat} {q : Str} {c' f g t : Addr} {fdg : FuncData} {lc : List (Str × Addr)} {v9 : V} {sp : Sp} (G : FnOk P w K mg base (L2.CX P w) k g fdg ["page", "least", "most"] sp) (kg : PySem.W.keepIn K (.ref g) = true) (bd : Binds K fdg ["page", "least", "most"] []) (mm : mg "gap_within" = some (.ref g)) :
    LamW P w K mg base (k + 1) f (HfD f ⟨"<lambda>", q, lm_l2.1, [], lm_l2.2.2, lc, c'⟩ lm_l2.2.1 t v9) (TGK.spLamR fr_l2 (rw_l2 sp) ⟨"<lambda>", q, lm_l2.1, [], lm_l2.2.2, lc, c'⟩) := by
  refine lamw_d (N := ["_law_a", "_law_bad"]) (fr := fr_l2) (nm := "_law_a") sc_l2 rfl rfl rfl rfl rfl key_l2 fun A outer s H Q E hr h => ?_
  obtain ⟨_, ws, cl, hC, v0, rfl, hsp⟩ := h
  have szl : (1000 : Nat) < sizeLine := by decide
  refine ⟨_, cl, _, hC, pe_callS G hr (by rfl) mm kg bd (fun σ => passAt (takes_of rfl rfl rfl rfl) σ) (pa_cons (pv 1) (pa_cons pe_int (pa_cons pe_int pa_nil))), ?_⟩
  exact ⟨_, rfl, hsp⟩
def rw_l3 (sp : Sp) : TGK.RW := fun ws H Q E => ∃ (v0 : V), ws = [some v0] ∧ ∀ e, H e = none → sp [v0, .ref e] (upd H e (.lst [])) Q E
theorem lok_l3 {k : Nat} {q : Str} {c' f g t : Addr} {fdg : FuncData} {lc : List (Str × Addr)} {v9 : V} {sp : Sp} (G : FnOk P w K mg base (L2.CX P w) k g fdg ["page", "other"] sp) (kg : PySem.W.keepIn K (.ref g) = true) (bd : Binds K fdg ["page", "other"] []) (mm : mg "route" = some (.ref g)) :
    LamW P w K mg base (k + 1) f (HfD f ⟨"<lambda>", q, lm_l3.1, [], lm_l3.2.2, lc, c'⟩ lm_l3.2.1 t v9) (TGK.spLamR fr_l3 (rw_l3 sp) ⟨"<lambda>", q, lm_l3.1, [], lm_l3.2.2, lc, c'⟩) := by
  refine lamw_d (N := ["_law_b", "_law_bad"]) (fr := fr_l3) (nm := "_law_b") sc_l3 rfl rfl rfl rfl rfl key_l3 fun A outer s H Q E hr h => ?_
  obtain ⟨_, ws, cl, hC, v0, rfl, hsp⟩ := h
  have szl : (1000 : Nat) < sizeLine := by decide
  refine ⟨_, cl, _, hC, pe_callS G hr (by rfl) mm kg bd (fun σ => passAt (takes_of rfl rfl rfl rfl) σ) (pa_cons (pv 1) (pa_cons (pe_lst pa_nil) pa_nil)), ?_⟩
  exact ⟨_, rfl, Nat.zero_le _, fun e ne => hsp e ne⟩
def rw_l4 (sp : Sp) : TGK.RW := fun ws H Q E => ∃ (v0 v1 : V), ws = [some v0, some v1] ∧ sp [v0, v1] H Q E
theorem lok_l4 {k : Nat} {q : Str} {c' f g t : Addr} {fdg : FuncData} {lc : List (Str × Addr)} {v9 : V} {sp : Sp} (G : FnOk P w K mg base (L2.CX P w) k g fdg ["page", "other"] sp) (kg : PySem.W.keepIn K (.ref g) = true) (bd : Binds K fdg ["page", "other"] []) (mm : mg "route" = some (.ref g)) :
    LamW P w K mg base (k + 1) f (HfD f ⟨"<lambda>", q, lm_l4.1, [], lm_l4.2.2, lc, c'⟩ lm_l4.2.1 t v9) (TGK.spLamR fr_l4 (rw_l4 sp) ⟨"<lambda>", q, lm_l4.1, [], lm_l4.2.2, lc, c'⟩) := by
  refine lamw_d (N := ["_law_c", "_law_good", "_law_bad"]) (fr := fr_l4) (nm := "_law_c") sc_l4 rfl rfl rfl rfl rfl key_l4 fun A outer s H Q E hr h => ?_
  obtain ⟨_, ws, cl, hC, v0, v1, rfl, hsp⟩ := h
  have szl : (1000 : Nat) < sizeLine := by decide
  refine ⟨_, cl, _, hC, pe_callS G hr (by rfl) mm kg bd (fun σ => passAt (takes_of rfl rfl rfl rfl) σ) (pa_cons (pv 1) (pa_cons (pv 2) pa_nil)), ?_⟩
  exact ⟨_, rfl, _, rfl, hsp⟩
def rw_l5 (sp : Sp) : TGK.RW := fun ws H Q E => ∃ (v0 v1 : V), ws = [some v0, some v1] ∧ sp [v0, v1, .int (-1)] H Q E
theorem lok_l5 {k : Nat} {q : Str} {c' f g : Addr} {fdg : FuncData} {lc : List (Str × Addr)} {sp : Sp} (G : FnOk P w K mg base (L2.CX P w) k g fdg ["page", "least", "most"] sp) (kg : PySem.W.keepIn K (.ref g) = true) (bd : Binds K fdg ["page", "least", "most"] []) (mm : mg "gap_within" = some (.ref g)) :
    LamW P w K mg base (k + 1) f (HfL f ⟨"<lambda>", q, lm_l5.1, [], lm_l5.2.2, lc, c'⟩ lm_l5.2.1) (TGK.spLamR fr_l5 (rw_l5 sp) ⟨"<lambda>", q, lm_l5.1, [], lm_l5.2.2, lc, c'⟩) := by
  refine lamw_l (lokx_of (N := fr_l5) (fr := fr_l5) sc_l5 (fun pm ctv => rfl) fun A outer s H Q E hr h => ?_)
  obtain ⟨_, ws, cl, hC, v0, v1, rfl, hsp⟩ := h
  have szl : (1000 : Nat) < sizeLine := by decide
  refine ⟨_, cl, _, hC, pe_callS G hr (by rfl) mm kg bd (fun σ => passAt (takes_of rfl rfl rfl rfl) σ) (pa_cons (pv 0) (pa_cons (pv 1) (pa_cons (pe_un un_neg pe_int) pa_nil))), ?_⟩
  exact ⟨_, rfl, _, rfl, _, rfl, hsp⟩
end
end TGK

namespace TGK
open TG
open PySem PySem.Spec PyProof.Rows L2 NdefX GenW Gx Lv Dl EnT
theorem tabs_lst {cs : List (Addr × Addr)} {H : Hp} {a : Addr} {us : List V} {o : HO} (t : Tabs cs H) (h : H a = some (.lst us)) : Tabs cs (upd H a o) := fun p hp => by
  obtain ⟨ps, h1, h2⟩ := t p hp
  exact ⟨ps, by rw [upd_ne fun z => by rw [z, h] at h1; cases h1]; exact h1, h2⟩
/-! ### all that stands: a sheet, its page, the tables of the lambdas -/
def KX (b l : Addr) (H H' : Hp) : Prop := ∀ c o, H c = some o → (∀ ps, o ≠ .tbl ps) → c ≠ b → c ≠ l → H' c = some o
theorem KX.refl {b l : Addr} {H : Hp} : KX b l H H := fun c o h _ _ _ => h
theorem KX.tr {b l : Addr} {H H1 H2 : Hp} (x : KX b l H H1) (y : KX b l H1 H2) : KX b l H H2 := fun c o h n n1 n2 => y c o (x c o h n n1 n2) n n1 n2
theorem kx_ext {b l : Addr} {H H' : Hp} (x : LamX.ExtN H H') : KX b l H H' := fun c o h n _ _ => x c o h n
theorem kx_kb {b l : Addr} {H H' : Hp} (x : KB b l H H') : KX b l H H' := fun c o h _ n1 n2 => x c o h n1 n2
theorem tabS_kb {b l p : Addr} {q : Str} {H H' : Hp} (t : LamX.TabS H p q) (B : BoxAt H b l) (x : KB b l H H') : LamX.TabS H' p q := by
  obtain ⟨ps, h1, h2, h3⟩ := t
  obtain ⟨ns, st, e1, e2, _⟩ := B
  have k : ∀ {c : Addr} {o : HO}, H c = some o → (∀ us, o ≠ .lst us) → H' c = some o := fun {c o} h n => x _ _ h (fun z => by rw [z, e1] at h; cases h; exact n _ rfl) (fun z => by rw [z, e2] at h; cases h; exact n _ rfl)
  refine ⟨ps, k h1 (fun us z => by cases z), h2, fun pos cv hc => ?_⟩
  obtain ⟨c, e1, e2⟩ := h3 pos cv hc
  exact ⟨c, e1, k e2 (fun us z => by unfold LamX.CodeO at z; cases z)⟩
/-- it stands beside the box -/
def Hd (b l : Addr) (H : Hp) (c : Addr) (o : HO) : Prop := H c = some o ∧ c ≠ b ∧ c ≠ l
theorem Hd.kx {b l c : Addr} {H H' : Hp} {o : HO} (h : Hd b l H c o) (x : KX b l H H') (n : ∀ ps, o ≠ .tbl ps) : Hd b l H' c o := ⟨x _ _ h.1 n h.2.1 h.2.2, h.2⟩
theorem Hd.kb {b l c : Addr} {H H' : Hp} {o : HO} (h : Hd b l H c o) (x : KB b l H H') : Hd b l H' c o := ⟨x _ _ h.1 h.2.1 h.2.2, h.2⟩
theorem Hd.gw {b l c : Addr} {H H' : Hp} {o : HO} (h : Hd b l H c o) (x : LamX.ExtN H H') (n : ∀ ps, o ≠ .tbl ps) : Hd b l H' c o := ⟨x _ _ h.1 n, h.2⟩
/-- the tables stand apart -/
structure Tbs (cs : List (Addr × Addr)) (tbs : List (Addr × Str)) : Prop where
  ap : ∀ p ∈ tbs, TG.Apart cs p.1
  nd : ∀ p ∈ tbs, ∀ p' ∈ tbs, p.1 = p'.1 → p.2 = p'.2
section
variable {cs : List (Addr × Addr)} {H : Hp}
theorem same_add {cl : List (Addr × Obj)} (un : ∀ c o, cl.lookup c = some o → H c = none) : Same H (addC H cl) := fun b u h => add_at un h
end
theorem HfLgw {f : Addr} {F : _} {e : _} {H H' : Hp} (h : HfL f F e H) (x : LamX.ExtN H H') : HfL f F e H' := ⟨x _ _ h.1 fnL_ne, x _ _ h.2 LamX.codeO_ne⟩
theorem HfDgw {f t : Addr} {F : _} {e : _} {v : V} {H H' : Hp} (h : HfD f F e t v H) (x : LamX.ExtN H H') : HfD f F e t v H' := ⟨x _ _ h.1 fnD_ne, x _ _ h.2.1 LamX.codeO_ne, x _ _ h.2.2 fun ps z => nomatch z⟩
theorem err_of {K : PySem.W.Frag} {H : Hp} {C : Addr} {j : Nat} (lt : j < 11) (fl : flE j = "") (e : C = He.ga K (nmE j)) : ErrAt K H j 0 (.ref C) none := ⟨lt, by rw [e], fun n => absurd fl n, fun _ => ⟨rfl, rfl⟩⟩
theorem tabs_addC {cs : List (Addr × Addr)} {H : Hp} {cl : List (Addr × Obj)} (t : Tabs cs H) (un : ∀ c o, cl.lookup c = some o → H c = none) : Tabs cs (addC H cl) := fun q hq => by
  obtain ⟨u, g1, g2⟩ := t q hq
  exact ⟨u, add_at un g1, g2⟩
theorem KX.put {b l w : Addr} {H H0 H' : Hp} {u : HO} (k0 : KX b l H H0) (k : KX b l H H') (n : H0 w = none) : KX b l H (upd H' w u) := fun c o h nt n1 n2 => by
  rw [upd_ne (fun e => by have := k0 c o h nt n1 n2; rw [e, n] at this; cases this)]
  exact k c o h nt n1 n2
theorem put_nl {w c : Addr} {H : Hp} {us ws : List V} {o : HO} (hw : H w = some (.lst us)) (h : H c = some o) (n : ∀ us, o ≠ .lst us) : upd H w (.lst ws) c = some o := by
  rw [upd_ne (fun e => by rw [e, hw] at h; cases h; exact n _ rfl)]
  exact h
theorem fnL_nl {f : Addr} {F : NF} {e : Expr} : ∀ us, FnL f F e ≠ .lst us := fun us z => by unfold FnL at z; cases z
theorem fnD_nl {f t : Addr} {F : NF} {e : Expr} : ∀ us, FnD f F e t ≠ .lst us := fun us z => by unfold FnD at z; cases z
theorem codeO_nl {c : Addr} {q : Str} : ∀ us, LamX.CodeO c q ≠ .lst us := fun us z => by unfold LamX.CodeO at z; cases z
theorem HfLput {f w : Addr} {F : _} {e : _} {H : Hp} {us ws : List V} (h : HfL f F e H) (hw : H w = some (.lst us)) : HfL f F e (upd H w (.lst ws)) := ⟨put_nl hw h.1 fnL_nl, put_nl hw h.2 codeO_nl⟩
theorem HfDput {f t w : Addr} {F : _} {e : _} {v : V} {H : Hp} {us ws : List V} (h : HfD f F e t v H) (hw : H w = some (.lst us)) : HfD f F e t v (upd H w (.lst ws)) := ⟨put_nl hw h.1 fnD_nl, put_nl hw h.2.1 codeO_nl, put_nl hw h.2.2 fun us z => nomatch z⟩
theorem kb_nl {b l c : Addr} {H H' : Hp} {o : HO} (B : BoxAt H b l) (x : KB b l H H') (h : H c = some o) (n : ∀ us, o ≠ .lst us) : H' c = some o := by
  obtain ⟨ns, st, e1, e2, _⟩ := B
  exact x _ _ h (fun z => by rw [z, e1] at h; cases h; exact n _ rfl) (fun z => by rw [z, e2] at h; cases h; exact n _ rfl)
theorem HfLkb {b l f : Addr} {F : _} {e : _} {H H' : Hp} (h : HfL f F e H) (B : BoxAt H b l) (x : KB b l H H') : HfL f F e H' := ⟨kb_nl B x h.1 fnL_nl, kb_nl B x h.2 codeO_nl⟩
theorem HfDkb {b l f t : Addr} {F : _} {e : _} {v : V} {H H' : Hp} (h : HfD f F e t v H) (B : BoxAt H b l) (x : KB b l H H') : HfD f F e t v H' := ⟨kb_nl B x h.1 fnD_nl, kb_nl B x h.2.1 codeO_nl, kb_nl B x h.2.2 fun us z => nomatch z⟩
theorem Hd.put {b l c w : Addr} {H : Hp} {o : HO} {us ws : List V} (h : Hd b l H c o) (hw : H w = some (.lst us)) (n : ∀ us, o ≠ .lst us) : Hd b l (upd H w (.lst ws)) c o := ⟨put_nl hw h.1 n, h.2⟩
/-- the numbers drawn from, the tables -/
structure Sy (cs : List (Addr × Addr)) (b l : Addr) (tbs : List (Addr × Str)) (H : Hp) : Prop where
  box : BoxAt H b l
  tab : Tabs cs H
  tb : ∀ p ∈ tbs, LamX.TabS H p.1 p.2
section
variable {cs : List (Addr × Addr)} {b l p q : Addr} {qn : Str} {tbs : List (Addr × Str)} {H H' H0 : Hp}
theorem Sy.ex (o : Sy cs b l tbs H) (ne : Tbs cs tbs) (x : Ex cs H H') : Sy cs b l tbs H' := ⟨box_ext o.box x.ext, x.tab, fun p hp => tabS_ex x (ne.ap p hp) (o.tb p hp)⟩
theorem Sy.draw (o : Sy cs b l tbs H) (x : KB b l H H') (hB : BoxAt H' b l) : Sy cs b l tbs H' := ⟨hB, tabs_kb o.tab o.box x, fun p hp => tabS_kb (o.tb p hp) o.box x⟩
theorem Sy.lam (o : Sy cs b l tbs H) (ne : Tbs cs tbs) (hp : (p, qn) ∈ tbs) (k1 : ∀ b o, H b = some o → b ≠ p → H' b = some o) (k2 : ∀ b, H' b = none → H b = none) (t : LamX.TabS H' p qn) : Sy cs b l tbs H' ∧ LamX.ExtN H H' := by
  have x := ex_lam (c := p) o.tab (ne.ap _ hp) (o.tb _ hp) k1 k2 t
  refine ⟨⟨box_ext o.box x.ext, tabs_less x.tab, fun p' hp' => ?_⟩, x.ext⟩
  by_cases e : p'.1 = p
  · have e2 : p'.2 = qn := ne.nd p' hp' (p, qn) hp e
    rw [e, e2]
    exact t
  · obtain ⟨ps, h1, h2, h3⟩ := o.tb p' hp'
    exact ⟨ps, k1 _ _ h1 e, h2, fun pos cv hcv => by
      obtain ⟨c0, e0, e1⟩ := h3 pos cv hcv
      exact ⟨c0, e0, x.ext _ _ e1 LamX.codeO_ne⟩⟩
theorem Sy.new (o : Sy cs b l tbs H) (ne : Tbs cs tbs) {u : HO} (n : H q = none) : Sy cs b l tbs (upd H q u) ∧ Hd b l (upd H q u) q u ∧ LamX.ExtN H (upd H q u) := by
  have x := Ex.laid (o := u) o.tab n
  obtain ⟨d1, d2⟩ := new_ne o.box n
  exact ⟨o.ex ne x, ⟨upd_same, d1, d2⟩, x.ext⟩
theorem Sy.put {us ws : List V} (o : Sy cs b l tbs H) (hw : Hd b l H q (.lst us)) : Sy cs b l tbs (upd H q (.lst ws)) :=
  ⟨box_upd o.box hw.2.1 hw.2.2, tabs_lst o.tab hw.1, fun p hp => by
    obtain ⟨ps, h1, h2, h3⟩ := o.tb p hp
    refine ⟨ps, put_nl hw.1 h1 (fun us z => by cases z), h2, fun pos cv hc => ?_⟩
    obtain ⟨c, e1, e2⟩ := h3 pos cv hc
    exact ⟨c, e1, put_nl hw.1 e2 codeO_nl⟩⟩
theorem ext_put {u : HO} (x : LamX.ExtN H0 H) (n : H0 q = none) : LamX.ExtN H0 (upd H q u) := fun c o h m => by rw [upd_ne (ne_of_none h n)]; exact x c o h m
end
theorem Door.ex {K : PySem.W.Frag} {cs : List (Addr × Addr)} {H H' : Hp} {E : XK} {a st : V} (d : Door K cs H E a st) (x : Ex cs H H') : Door K cs H' E a st := by
  obtain ⟨hT, j, n, hb, hE⟩ := d
  exact ⟨x.tab, j, n, hb.gw x.ext, hE.after x⟩
/-! ### works refused in all heaps that come, tables of lambdas aside -/
section
variable {P : Program} {w : World} {K : PySem.W.Frag} {mg : Str → Option Value} {base : Heap} {cs : List (Addr × Addr)}
def RefN (P : Program) (w : World) (K : PySem.W.Frag) (mg : Str → Option Value) (base : Heap) (cs : List (Addr × Addr)) (kl : Nat) (j : Nat) (n : Int) (H : Hp) (f : Addr) : Prop := ∃ (Hf : Hp → Prop) (sp : Sp), LamW P w K mg base kl f Hf sp ∧
  ∀ H1, LamX.ExtN H H1 → Tabs cs H1 → Hf H1 ∧ ∀ (Z : VK) (E : XK), (∀ (cls : Value) (d : Option Addr) (H2 : Hp), ErrAt K H2 j n cls d → Ex cs H1 H2 → E cls d H2) → sp [] H1 Z E
theorem RefN.ref {kl j : Nat} {n : Int} {H : Hp} {f : Addr} (r : RefN P w K mg base cs kl j n H f) : Ref P w K mg base cs kl j n H f := by
  obtain ⟨Hf, sp, L, k⟩ := r
  exact ⟨Hf, sp, L, fun H1 x => k H1 x.ext x.tab⟩
theorem RefN.gw {kl j : Nat} {n : Int} {H H' : Hp} {f : Addr} (r : RefN P w K mg base cs kl j n H f) (x : LamX.ExtN H H') : RefN P w K mg base cs kl j n H' f := by
  obtain ⟨Hf, sp, L, k⟩ := r
  exact ⟨Hf, sp, L, fun H1 y => k H1 (x.trans y)⟩
theorem extN_del {H H1 : Hp} {cl : List (Addr × Obj)} (un : ∀ c o, cl.lookup c = some o → H c = none) (x : LamX.ExtN (addC H cl) H1) : LamX.ExtN H (delC H1 cl) := fun b o h n => by
  rw [delC_out (del_at un h)]
  exact x b o (add_at un h) n
theorem tabs_del {H1 : Hp} {cl : List (Addr × Obj)} (told : ∀ c o, cl.lookup c = some o → H1 c = some (cellF o)) (t : Tabs cs H1) : Tabs cs (delC H1 cl) := fun q hq => by
  obtain ⟨ps, h1, h2⟩ := t q hq
  refine ⟨ps, ?_, h2⟩
  rw [delC_out]
  · exact h1
  · cases r : cl.lookup q.2 with
    | none => rfl
    | some u =>
      have := told _ _ r
      rw [h1] at this
      exact absurd (Option.some.inj this).symm (cell_ne u ps)
theorem ref_ofN {kl j : Nat} {n : Int} {cells : List (Str × Addr)} {N N' ps fr names : List Str} {σ : L2.St} {cl : List (Addr × Obj)} {H : Hp} {f c' : Addr} {lc : List (Str × Addr)} {lam : TGK.LamT} {Hf : Hp → Prop} {qn : Str} {R : TGK.RW} {ws : List (Option V)} (sc : NScope N' ps fr lam.2.2) (hps : ∀ y, (y, NameKind.free) ∈ lam.2.2.names → y ∈ fr) (hsub : ∀ y ∈ fr, y ∈ names)
    (T : ToldC cells N names σ cl) (un : ∀ c o, cl.lookup c = some o → H c = none) (hF : lc = cloFrom cells lam.2.2.names []) (hl : ws.length = fr.length) (hw : ∀ (i : Nat) (y : Str) (v : V), fr[i]? = some y → ws[i]? = some (some v) → ∃ j : Nat, N[j]? = some y ∧ σ[j]? = some (some v))
    (hk : ∀ H1, LamX.ExtN (addC H cl) H1 → Hf H1) (L : LamW P w K mg base kl f Hf (TGK.spLamR fr R ⟨"<lambda>", qn, lam.1, [], lam.2.2, lc, c'⟩))
    (run : ∀ H1, LamX.ExtN H H1 → Tabs cs H1 → (∀ c o, cl.lookup c = some o → H1 c = none) → ∀ (Z : VK) (E' : XK), (∀ (cls : Value) (d : Option Addr) (H2 : Hp), ErrAt K H2 j n cls d → Ex cs H1 H2 → E' cls d H2) → R ws H1 Z E') :
    RefN P w K mg base cs kl j n (addC H cl) f := by
  refine ⟨Hf, _, L, fun H1 x t => ⟨hk H1 x, fun Z E hE => ?_⟩⟩
  have told : ∀ c o, cl.lookup c = some o → H1 c = some (cellF o) := fun c o q => x _ _ (addC_in q) (cell_ne o)
  refine ⟨rfl, ws, cl, caught_of T hF hps (fun y hy => PySem.mem_of_lookup (sc.frk y hy)) hsub hl told (fun i y v q1 q2 => hw i y v q1 q2), ?_⟩
  exact run (delC H1 cl) (extN_del un x) (tabs_del told t) (fun c o q => delC_in q) _ _ fun cls d H2 he x2 hu => hE cls d _ (TGK.err_add hu he) (TGK.ex_add told hu x2)
def RefsN (P : Program) (w : World) (K : PySem.W.Frag) (mg : Str → Option Value) (base : Heap) (cs : List (Addr × Addr)) (j : Nat) (n : Int) (fs : List Addr) (H : Hp) : Prop := ∀ f ∈ fs, RefN P w K mg base cs 18 j n H f
theorem RefsN.gw {j : Nat} {n : Int} {fs : List Addr} {H H' : Hp} (r : RefsN P w K mg base cs j n fs H) (x : LamX.ExtN H H') : RefsN P w K mg base cs j n fs H' := fun f hf => (r f hf).gw x
end
/-! ### _law_doors -/
abbrev qD : Str := ("_law_doors" : Str) ++ ".<locals>." ++ "<lambda>"
theorem sub_d1 : ∀ y ∈ fr_d1, y ∈ (["_law_page_here", "_law_style_here"] : List Str) := by decide +kernel
theorem sub_d2 : ∀ y ∈ fr_d2, y ∈ (["_law_page_here", "_law_style_here"] : List Str) := by decide +kernel
theorem sub_d3 : ∀ y ∈ fr_d3, y ∈ (["_law_page_here", "_law_style_here"] : List Str) := by decide +kernel
theorem sub_d4 : ∀ y ∈ fr_d4, y ∈ (["_law_page_here", "_law_style_here"] : List Str) := by decide +kernel
theorem sub_d5 : ∀ y ∈ fr_d5, y ∈ (["_law_page_here", "_law_style_here"] : List Str) := by decide +kernel
theorem sub_d6 : ∀ y ∈ fr_d6, y ∈ (["_law_page_here", "_law_style_here"] : List Str) := by decide +kernel
theorem sub_d7 : ∀ y ∈ fr_d7, y ∈ (["_law_page_here", "_law_style_here"] : List Str) := by decide +kernel
theorem sub_d8 : ∀ y ∈ fr_d8, y ∈ (["_law_page_here", "_law_style_here"] : List Str) := by decide +kernel
theorem sub_d9 : ∀ y ∈ fr_d9, y ∈ (["_law_page_here", "_law_style_here"] : List Str) := by decide +kernel
theorem sub_d10 : ∀ y ∈ fr_d10, y ∈ (["_law_page_here", "_law_style_here"] : List Str) := by decide +kernel
abbrev nmDoo : List Str := ["_law_page_here", "_law_style_here", "_law_works"]
theorem sc_doo_ : FnScope nmDoo ["_law_page_here", "_law_style_here"] (defScope s_doors) := ⟨rfl, rfl, rfl, by decide +kernel, rfl, by decide +kernel, by decide +kernel⟩
theorem kc_doo : ∀ y ∈ (["_law_page_here", "_law_style_here"] : List Str), (defScope s_doors).names.lookup y = some .cell := by decide +kernel
section
variable {P : Program} {w : World} {K : PySem.W.Frag} {mg : Str → Option Value} {base : Heap} {cs : List (Addr × Addr)} {S U B p : Addr} {tbs : List (Addr × Str)}
def spDoors (P : Program) (w : World) (K : PySem.W.Frag) (mg : Str → Option Value) (base : Heap) (cs : List (Addr × Addr)) (tbs : List (Addr × Str)) : Sp := fun vs H Q _ => ∃ (b l : Addr) (a st : V) (j : Nat) (n : Int), vs = [a, st] ∧ Sy cs b l tbs H ∧ Bad2 K H a st j n ∧
  ∀ (w_ : Addr) (fs : List Addr) (H' : Hp), Sy cs b l tbs H' → LamX.ExtN H H' → fs.length = 10 → Hd b l H' w_ (.lst (fs.map V.ref)) → RefsN P w K mg base cs j n fs H' → Q (.ref w_) H'
theorem ok_doors {f cd gstretches gstops glaid gshown gjudged gstepped gplaced gSheet gCursor gTable : Addr} {fd fdstretches fdstops fdlaid fdshown fdjudged fdstepped fdplaced fdSheet fdCursor fdTable : FuncData} (ne : Tbs cs tbs) (hq : (p, qD) ∈ tbs) (F : Fun K "_law_doors" "_law_doors" s_doors f fd) (hcode : fd.code = .ref cd) (TB : LamX.TabB base mg cd p)
    (Gstretches : FnOk P w K mg base (L2.CX P w) 17 gstretches fdstretches ["page", "style"] (spD2 K cs)) (kstretches : PySem.W.keepIn K (.ref gstretches) = true) (bstretches : Binds K fdstretches ["page", "style"] []) (mstretches : mg "stretches" = some (.ref gstretches))
    (Gstops : FnOk P w K mg base (L2.CX P w) 17 gstops fdstops ["page", "style"] (spD2 K cs)) (kstops : PySem.W.keepIn K (.ref gstops) = true) (bstops : Binds K fdstops ["page", "style"] []) (mstops : mg "stops" = some (.ref gstops))
    (Glaid : FnOk P w K mg base (L2.CX P w) 17 glaid fdlaid ["page", "style"] (spD2 K cs)) (klaid : PySem.W.keepIn K (.ref glaid) = true) (blaid : Binds K fdlaid ["page", "style"] []) (mlaid : mg "laid" = some (.ref glaid))
    (Gshown : FnOk P w K mg base (L2.CX P w) 17 gshown fdshown ["page", "style"] (spD2 K cs)) (kshown : PySem.W.keepIn K (.ref gshown) = true) (bshown : Binds K fdshown ["page", "style"] []) (mshown : mg "shown" = some (.ref gshown))
    (Gjudged : FnOk P w K mg base (L2.CX P w) 17 gjudged fdjudged ["page", "style", "told"] (spD3 K cs)) (kjudged : PySem.W.keepIn K (.ref gjudged) = true) (bjudged : Binds K fdjudged ["page", "style", "told"] []) (mjudged : mg "judged" = some (.ref gjudged))
    (Gstepped : FnOk P w K mg base (L2.CX P w) 17 gstepped fdstepped ["page", "style", "steps"] (spD3 K cs)) (kstepped : PySem.W.keepIn K (.ref gstepped) = true) (bstepped : Binds K fdstepped ["page", "style", "steps"] []) (mstepped : mg "stepped" = some (.ref gstepped))
    (Gplaced : FnOk P w K mg base (L2.CX P w) 17 gplaced fdplaced ["page", "style", "row"] (spD3 K cs)) (kplaced : PySem.W.keepIn K (.ref gplaced) = true) (bplaced : Binds K fdplaced ["page", "style", "row"] []) (mplaced : mg "placed" = some (.ref gplaced))
    (MSheet : Mk K S gSheet) (GSheet : FnOk P w K mg base (L2.CX P w) 16 gSheet fdSheet ["self", "page", "style"] (spI3 K cs)) (bSheet : Binds K fdSheet ["self", "page", "style"] []) (mSheet : mg "Sheet" = some (.ref S))
    (MCursor : Mk K U gCursor) (GCursor : FnOk P w K mg base (L2.CX P w) 16 gCursor fdCursor ["self", "page", "style"] (spI3 K cs)) (bCursor : Binds K fdCursor ["self", "page", "style"] []) (mCursor : mg "Cursor" = some (.ref U))
    (MTable : Mk K B gTable) (GTable : FnOk P w K mg base (L2.CX P w) 16 gTable fdTable ["self", "page", "style", "hands"] (spI4 K cs)) (bTable : Binds K fdTable ["self", "page", "style", "hands"] []) (mTable : mg "Table" = some (.ref B)) :
    FnOk P w K mg base CX0 1 f fd ["_law_page_here", "_law_style_here"] (spDoors P w K mg base cs tbs) := by
  refine fun_okC ["_law_page_here", "_law_style_here"] F hcode sc_doo_ (fun vs H Q E h => ?_) kc_doo (fun A outer s H vs Q E hr h => ?_)
  · obtain ⟨b, l, a, st, j, n, rfl, _⟩ := h
    rfl
  · obtain ⟨b, l, a, st, j, n, rfl, o, hb, k⟩ := h
    have nd := sc_doo_.nd
    have szl : (9000 : Nat) < sizeLine := by decide
    refine ⟨_, (psc_cons (ps_set (i := 2) nd rfl (.inl rfl) (pe_lst (pa_cons (pe_lamC TB rfl rfl fun y hy e => .inl (kl_d1 y hy e)) (pa_cons (pe_lamD (v := .int 0) TB rfl rfl rfl rfl pe_int (fun y hy e => .inl (kl_d2 y hy e)) ⟨("_law_page_here", .free), by decide +kernel, rfl⟩) (pa_cons (pe_lamD (v := .int 0) TB rfl rfl rfl rfl pe_int (fun y hy e => .inl (kl_d3 y hy e)) ⟨("_law_page_here", .free), by decide +kernel, rfl⟩) pa_nil)))))
      (psc_cons (ps_set (i := 2) nd rfl (.inl rfl) (pe_op op_cat (pv 2) (pe_lst (pa_cons (pe_lamD (v := .int 0) TB rfl rfl rfl rfl pe_int (fun y hy e => .inl (kl_d4 y hy e)) ⟨("_law_page_here", .free), by decide +kernel, rfl⟩) (pa_cons (pe_lamD (v := .int 0) TB rfl rfl rfl rfl pe_int (fun y hy e => .inl (kl_d5 y hy e)) ⟨("_law_page_here", .free), by decide +kernel, rfl⟩) pa_nil)))))
      (psc_cons (ps_expr (pe_bm PySem.F.plainAttrs_list PySem.F.slot_list_append PySem.F.type_list_append mt_append (pv 2) (pa_cons (pe_lamD (v := .int 0) TB rfl rfl rfl rfl pe_int (fun y hy e => .inl (kl_d6 y hy e)) ⟨("_law_page_here", .free), by decide +kernel, rfl⟩) pa_nil)))
      (psc_cons (ps_set (i := 2) nd rfl (.inl rfl) (pe_op op_cat (pv 2) (pe_lst (pa_cons (pe_lamD (v := .int 0) TB rfl rfl rfl rfl pe_int (fun y hy e => .inl (kl_d7 y hy e)) ⟨("_law_page_here", .free), by decide +kernel, rfl⟩) (pa_cons (pe_lamD (v := .int 0) TB rfl rfl rfl rfl pe_int (fun y hy e => .inl (kl_d8 y hy e)) ⟨("_law_page_here", .free), by decide +kernel, rfl⟩) pa_nil)))))
      (psc_ret (pe_op op_cat (pv 2) (pe_lst (pa_cons (pe_lamD (v := .int 0) TB rfl rfl rfl rfl pe_int (fun y hy e => .inl (kl_d9 y hy e)) ⟨("_law_page_here", .free), by decide +kernel, rfl⟩) (pa_cons (pe_lamD (v := .int 0) TB rfl rfl rfl rfl pe_int (fun y hy e => .inl (kl_d10 y hy e)) ⟨("_law_page_here", .free), by decide +kernel, rfl⟩) pa_nil))))))))), ?_⟩
    have xk : LamX.ExtN H H := LamX.ExtN.refl H
    have kx : KX b l H H := KX.refl
    refine ⟨o.tb _ hq, fun f_d1 d_d1 Hx1 k1 k2 t11 nf hf hc => ?_⟩
    obtain ⟨o, xx⟩ := o.lam ne hq k1 k2 t11
    have kx := kx.tr (kx_ext xx)
    have hb := hb.gw xx
    have xk := xk.trans xx
    have g_d1 : HfL f_d1 ⟨"<lambda>", qD, lm_d1.1, [], lm_d1.2.2, cloFrom (cxOf CX0 P w K mg base nmDoo "_law_doors" (defScope s_doors) f (.ref cd) A outer s H E).nox.env.cells lm_d1.2.2.names [], d_d1⟩ lm_d1.2.1 _ := ⟨hf, hc⟩
    clear xx k1 k2 t11 nf hf hc
    refine ⟨o.tb _ hq, fun f_d2 d_d2 u_d2 Hx2 k1 k2 t11 nf hf => ?_⟩
    obtain ⟨o, xx⟩ := o.lam ne hq k1 k2 t11
    have kx := kx.tr (kx_ext xx)
    have hb := hb.gw xx
    have xk := xk.trans xx
    have g_d1 := HfLgw g_d1 xx
    have g_d2 : HfD f_d2 ⟨"<lambda>", qD, lm_d2.1, [], lm_d2.2.2, cloFrom (cxOf CX0 P w K mg base nmDoo "_law_doors" (defScope s_doors) f (.ref cd) A outer s H E).nox.env.cells lm_d2.2.2.names [], d_d2⟩ lm_d2.2.1 u_d2 (.int 0) _ := hf
    clear xx k1 k2 t11 nf hf
    refine ⟨o.tb _ hq, fun f_d3 d_d3 u_d3 Hx3 k1 k2 t11 nf hf => ?_⟩
    obtain ⟨o, xx⟩ := o.lam ne hq k1 k2 t11
    have kx := kx.tr (kx_ext xx)
    have hb := hb.gw xx
    have xk := xk.trans xx
    have g_d1 := HfLgw g_d1 xx
    have g_d2 := HfDgw g_d2 xx
    have g_d3 : HfD f_d3 ⟨"<lambda>", qD, lm_d3.1, [], lm_d3.2.2, cloFrom (cxOf CX0 P w K mg base nmDoo "_law_doors" (defScope s_doors) f (.ref cd) A outer s H E).nox.env.cells lm_d3.2.2.names [], d_d3⟩ lm_d3.2.1 u_d3 (.int 0) _ := hf
    clear xx k1 k2 t11 nf hf
    refine ⟨by show 3 ≤ sizeLine; decide, fun w1 nw1 => ?_⟩
    obtain ⟨o, hw1, xx⟩ := o.new (u := .lst [V.ref f_d1, V.ref f_d2, V.ref f_d3]) ne nw1
    have kx := kx.tr (kx_ext xx)
    have hb := hb.gw xx
    have xk := xk.trans xx
    have g_d1 := HfLgw g_d1 xx
    have g_d2 := HfDgw g_d2 xx
    have g_d3 := HfDgw g_d3 xx
    generalize upd Hx3 w1 (.lst [V.ref f_d1, V.ref f_d2, V.ref f_d3]) = Hx4 at o kx hw1 hb xk g_d1 g_d2 g_d3 ⊢
    clear xx nw1
    refine ⟨_, rfl, ?_⟩
    refine ⟨o.tb _ hq, fun f_d4 d_d4 u_d4 Hx5 k1 k2 t11 nf hf => ?_⟩
    obtain ⟨o, xx⟩ := o.lam ne hq k1 k2 t11
    have kx := kx.tr (kx_ext xx)
    have hb := hb.gw xx
    have xk := xk.trans xx
    have g_d1 := HfLgw g_d1 xx
    have g_d2 := HfDgw g_d2 xx
    have g_d3 := HfDgw g_d3 xx
    have hw1 := hw1.gw xx fun ps z => nomatch z
    have g_d4 : HfD f_d4 ⟨"<lambda>", qD, lm_d4.1, [], lm_d4.2.2, cloFrom (cxOf CX0 P w K mg base nmDoo "_law_doors" (defScope s_doors) f (.ref cd) A outer s H E).nox.env.cells lm_d4.2.2.names [], d_d4⟩ lm_d4.2.1 u_d4 (.int 0) _ := hf
    clear xx k1 k2 t11 nf hf
    refine ⟨o.tb _ hq, fun f_d5 d_d5 u_d5 Hx6 k1 k2 t11 nf hf => ?_⟩
    obtain ⟨o, xx⟩ := o.lam ne hq k1 k2 t11
    have kx := kx.tr (kx_ext xx)
    have hb := hb.gw xx
    have xk := xk.trans xx
    have g_d1 := HfLgw g_d1 xx
    have g_d2 := HfDgw g_d2 xx
    have g_d3 := HfDgw g_d3 xx
    have hw1 := hw1.gw xx fun ps z => nomatch z
    have g_d4 := HfDgw g_d4 xx
    have g_d5 : HfD f_d5 ⟨"<lambda>", qD, lm_d5.1, [], lm_d5.2.2, cloFrom (cxOf CX0 P w K mg base nmDoo "_law_doors" (defScope s_doors) f (.ref cd) A outer s H E).nox.env.cells lm_d5.2.2.names [], d_d5⟩ lm_d5.2.1 u_d5 (.int 0) _ := hf
    clear xx k1 k2 t11 nf hf
    refine ⟨by show 2 ≤ sizeLine; decide, fun w2 nw2 => ?_⟩
    obtain ⟨o, hw2, xx⟩ := o.new (u := .lst [V.ref f_d4, V.ref f_d5]) ne nw2
    have kx := kx.tr (kx_ext xx)
    have hb := hb.gw xx
    have xk := xk.trans xx
    have g_d1 := HfLgw g_d1 xx
    have g_d2 := HfDgw g_d2 xx
    have g_d3 := HfDgw g_d3 xx
    have hw1 := hw1.gw xx fun ps z => nomatch z
    have g_d4 := HfDgw g_d4 xx
    have g_d5 := HfDgw g_d5 xx
    generalize upd Hx6 w2 (.lst [V.ref f_d4, V.ref f_d5]) = Hx7 at o kx hw2 hb xk g_d1 g_d2 g_d3 hw1 g_d4 g_d5 ⊢
    clear xx nw2
    refine ⟨w1, w2, _, _, rfl, rfl, hw1.1, hw2.1, by show 5 ≤ sizeLine; omega, fun w3 nw3 => ?_⟩
    clear hw1 hw2
    have o0 := o
    have k0 := kx
    have nw30 := nw3
    have x0 := LamX.ExtN.refl Hx7
    have x0h : Hx7 w3 = none := nw3
    have hb0 := hb
    have xk0 := xk
    obtain ⟨o, hw3, xx⟩ := o.new (u := .lst ([V.ref f_d1, V.ref f_d2, V.ref f_d3] ++ [V.ref f_d4, V.ref f_d5])) ne nw3
    have kx := kx.tr (kx_ext xx)
    have hb := hb.gw xx
    have xk := xk.trans xx
    have g_d1 := HfLgw g_d1 xx
    have g_d2 := HfDgw g_d2 xx
    have g_d3 := HfDgw g_d3 xx
    have g_d4 := HfDgw g_d4 xx
    have g_d5 := HfDgw g_d5 xx
    have x0 := x0.trans xx
    generalize upd Hx7 w3 (.lst ([V.ref f_d1, V.ref f_d2, V.ref f_d3] ++ [V.ref f_d4, V.ref f_d5])) = Hx8 at o kx hw3 hb xk g_d1 g_d2 g_d3 g_d4 g_d5 x0 ⊢
    clear xx nw3
    refine ⟨_, rfl, .inl ⟨rfl, _, SqL.of hw3.1⟩, ?_⟩
    refine ⟨o.tb _ hq, fun f_d6 d_d6 u_d6 Hx9 k1 k2 t11 nf hf => ?_⟩
    obtain ⟨o, xx⟩ := o.lam ne hq k1 k2 t11
    have kx := kx.tr (kx_ext xx)
    have hb := hb.gw xx
    have xk := xk.trans xx
    have g_d1 := HfLgw g_d1 xx
    have g_d2 := HfDgw g_d2 xx
    have g_d3 := HfDgw g_d3 xx
    have g_d4 := HfDgw g_d4 xx
    have g_d5 := HfDgw g_d5 xx
    have x0 := x0.trans xx
    have hw3 := hw3.gw xx fun ps z => nomatch z
    have g_d6 : HfD f_d6 ⟨"<lambda>", qD, lm_d6.1, [], lm_d6.2.2, cloFrom (cxOf CX0 P w K mg base nmDoo "_law_doors" (defScope s_doors) f (.ref cd) A outer s H E).nox.env.cells lm_d6.2.2.names [], d_d6⟩ lm_d6.2.1 u_d6 (.int 0) _ := hf
    clear xx k1 k2 t11 nf hf
    refine ⟨w3, _, _, rfl, rfl, hw3.1, by show 5 < sizeLine; omega, ?_⟩
    have kx := KX.put k0 kx x0h (u := .lst (([V.ref f_d1, V.ref f_d2, V.ref f_d3] ++ [V.ref f_d4, V.ref f_d5]) ++ [V.ref f_d6]))
    have o := Sy.put (ws := (([V.ref f_d1, V.ref f_d2, V.ref f_d3] ++ [V.ref f_d4, V.ref f_d5]) ++ [V.ref f_d6])) o hw3
    have hb := hb0.gw (ext_put (u := .lst (([V.ref f_d1, V.ref f_d2, V.ref f_d3] ++ [V.ref f_d4, V.ref f_d5]) ++ [V.ref f_d6])) x0 x0h)
    have g_d1 := HfLput g_d1 hw3.1 (ws := (([V.ref f_d1, V.ref f_d2, V.ref f_d3] ++ [V.ref f_d4, V.ref f_d5]) ++ [V.ref f_d6]))
    have g_d2 := HfDput g_d2 hw3.1 (ws := (([V.ref f_d1, V.ref f_d2, V.ref f_d3] ++ [V.ref f_d4, V.ref f_d5]) ++ [V.ref f_d6]))
    have g_d3 := HfDput g_d3 hw3.1 (ws := (([V.ref f_d1, V.ref f_d2, V.ref f_d3] ++ [V.ref f_d4, V.ref f_d5]) ++ [V.ref f_d6]))
    have g_d4 := HfDput g_d4 hw3.1 (ws := (([V.ref f_d1, V.ref f_d2, V.ref f_d3] ++ [V.ref f_d4, V.ref f_d5]) ++ [V.ref f_d6]))
    have g_d5 := HfDput g_d5 hw3.1 (ws := (([V.ref f_d1, V.ref f_d2, V.ref f_d3] ++ [V.ref f_d4, V.ref f_d5]) ++ [V.ref f_d6]))
    have g_d6 := HfDput g_d6 hw3.1 (ws := (([V.ref f_d1, V.ref f_d2, V.ref f_d3] ++ [V.ref f_d4, V.ref f_d5]) ++ [V.ref f_d6]))
    have hw3 : Hd b l (upd Hx9 w3 (.lst (([V.ref f_d1, V.ref f_d2, V.ref f_d3] ++ [V.ref f_d4, V.ref f_d5]) ++ [V.ref f_d6]))) w3 (.lst (([V.ref f_d1, V.ref f_d2, V.ref f_d3] ++ [V.ref f_d4, V.ref f_d5]) ++ [V.ref f_d6])) := ⟨upd_same, hw3.2⟩
    have xput := ext_put (u := .lst (([V.ref f_d1, V.ref f_d2, V.ref f_d3] ++ [V.ref f_d4, V.ref f_d5]) ++ [V.ref f_d6])) x0 x0h
    clear o0 k0 x0 x0h
    have xk := xk0.trans xput
    generalize upd Hx9 w3 (.lst (([V.ref f_d1, V.ref f_d2, V.ref f_d3] ++ [V.ref f_d4, V.ref f_d5]) ++ [V.ref f_d6])) = Hx10 at o kx hb xk g_d1 g_d2 g_d3 g_d4 g_d5 hw3 g_d6 ⊢
    refine ⟨_, rfl, ?_⟩
    refine ⟨o.tb _ hq, fun f_d7 d_d7 u_d7 Hx11 k1 k2 t11 nf hf => ?_⟩
    obtain ⟨o, xx⟩ := o.lam ne hq k1 k2 t11
    have kx := kx.tr (kx_ext xx)
    have hb := hb.gw xx
    have xk := xk.trans xx
    have g_d1 := HfLgw g_d1 xx
    have g_d2 := HfDgw g_d2 xx
    have g_d3 := HfDgw g_d3 xx
    have g_d4 := HfDgw g_d4 xx
    have g_d5 := HfDgw g_d5 xx
    have hw3 := hw3.gw xx fun ps z => nomatch z
    have g_d6 := HfDgw g_d6 xx
    have g_d7 : HfD f_d7 ⟨"<lambda>", qD, lm_d7.1, [], lm_d7.2.2, cloFrom (cxOf CX0 P w K mg base nmDoo "_law_doors" (defScope s_doors) f (.ref cd) A outer s H E).nox.env.cells lm_d7.2.2.names [], d_d7⟩ lm_d7.2.1 u_d7 (.int 0) _ := hf
    clear xx k1 k2 t11 nf hf
    refine ⟨o.tb _ hq, fun f_d8 d_d8 u_d8 Hx12 k1 k2 t11 nf hf => ?_⟩
    obtain ⟨o, xx⟩ := o.lam ne hq k1 k2 t11
    have kx := kx.tr (kx_ext xx)
    have hb := hb.gw xx
    have xk := xk.trans xx
    have g_d1 := HfLgw g_d1 xx
    have g_d2 := HfDgw g_d2 xx
    have g_d3 := HfDgw g_d3 xx
    have g_d4 := HfDgw g_d4 xx
    have g_d5 := HfDgw g_d5 xx
    have hw3 := hw3.gw xx fun ps z => nomatch z
    have g_d6 := HfDgw g_d6 xx
    have g_d7 := HfDgw g_d7 xx
    have g_d8 : HfD f_d8 ⟨"<lambda>", qD, lm_d8.1, [], lm_d8.2.2, cloFrom (cxOf CX0 P w K mg base nmDoo "_law_doors" (defScope s_doors) f (.ref cd) A outer s H E).nox.env.cells lm_d8.2.2.names [], d_d8⟩ lm_d8.2.1 u_d8 (.int 0) _ := hf
    clear xx k1 k2 t11 nf hf
    refine ⟨by show 2 ≤ sizeLine; decide, fun w4 nw4 => ?_⟩
    obtain ⟨o, hw4, xx⟩ := o.new (u := .lst [V.ref f_d7, V.ref f_d8]) ne nw4
    have kx := kx.tr (kx_ext xx)
    have hb := hb.gw xx
    have xk := xk.trans xx
    have g_d1 := HfLgw g_d1 xx
    have g_d2 := HfDgw g_d2 xx
    have g_d3 := HfDgw g_d3 xx
    have g_d4 := HfDgw g_d4 xx
    have g_d5 := HfDgw g_d5 xx
    have hw3 := hw3.gw xx fun ps z => nomatch z
    have g_d6 := HfDgw g_d6 xx
    have g_d7 := HfDgw g_d7 xx
    have g_d8 := HfDgw g_d8 xx
    generalize upd Hx12 w4 (.lst [V.ref f_d7, V.ref f_d8]) = Hx13 at o kx hw4 hb xk g_d1 g_d2 g_d3 g_d4 g_d5 hw3 g_d6 g_d7 g_d8 ⊢
    clear xx nw4
    refine ⟨w3, w4, _, _, rfl, rfl, hw3.1, hw4.1, by show 8 ≤ sizeLine; omega, fun w5 nw5 => ?_⟩
    clear hw3 hw4
    obtain ⟨o, hw5, xx⟩ := o.new (u := .lst ((([V.ref f_d1, V.ref f_d2, V.ref f_d3] ++ [V.ref f_d4, V.ref f_d5]) ++ [V.ref f_d6]) ++ [V.ref f_d7, V.ref f_d8])) ne nw5
    have kx := kx.tr (kx_ext xx)
    have hb := hb.gw xx
    have xk := xk.trans xx
    have g_d1 := HfLgw g_d1 xx
    have g_d2 := HfDgw g_d2 xx
    have g_d3 := HfDgw g_d3 xx
    have g_d4 := HfDgw g_d4 xx
    have g_d5 := HfDgw g_d5 xx
    have g_d6 := HfDgw g_d6 xx
    have g_d7 := HfDgw g_d7 xx
    have g_d8 := HfDgw g_d8 xx
    generalize upd Hx13 w5 (.lst ((([V.ref f_d1, V.ref f_d2, V.ref f_d3] ++ [V.ref f_d4, V.ref f_d5]) ++ [V.ref f_d6]) ++ [V.ref f_d7, V.ref f_d8])) = Hx14 at o kx hw5 hb xk g_d1 g_d2 g_d3 g_d4 g_d5 g_d6 g_d7 g_d8 ⊢
    clear xx nw5
    refine ⟨_, rfl, ?_⟩
    refine ⟨o.tb _ hq, fun f_d9 d_d9 u_d9 Hx15 k1 k2 t11 nf hf => ?_⟩
    obtain ⟨o, xx⟩ := o.lam ne hq k1 k2 t11
    have kx := kx.tr (kx_ext xx)
    have hb := hb.gw xx
    have xk := xk.trans xx
    have g_d1 := HfLgw g_d1 xx
    have g_d2 := HfDgw g_d2 xx
    have g_d3 := HfDgw g_d3 xx
    have g_d4 := HfDgw g_d4 xx
    have g_d5 := HfDgw g_d5 xx
    have g_d6 := HfDgw g_d6 xx
    have g_d7 := HfDgw g_d7 xx
    have g_d8 := HfDgw g_d8 xx
    have hw5 := hw5.gw xx fun ps z => nomatch z
    have g_d9 : HfD f_d9 ⟨"<lambda>", qD, lm_d9.1, [], lm_d9.2.2, cloFrom (cxOf CX0 P w K mg base nmDoo "_law_doors" (defScope s_doors) f (.ref cd) A outer s H E).nox.env.cells lm_d9.2.2.names [], d_d9⟩ lm_d9.2.1 u_d9 (.int 0) _ := hf
    clear xx k1 k2 t11 nf hf
    refine ⟨o.tb _ hq, fun f_d10 d_d10 u_d10 Hx16 k1 k2 t11 nf hf => ?_⟩
    obtain ⟨o, xx⟩ := o.lam ne hq k1 k2 t11
    have kx := kx.tr (kx_ext xx)
    have hb := hb.gw xx
    have xk := xk.trans xx
    have g_d1 := HfLgw g_d1 xx
    have g_d2 := HfDgw g_d2 xx
    have g_d3 := HfDgw g_d3 xx
    have g_d4 := HfDgw g_d4 xx
    have g_d5 := HfDgw g_d5 xx
    have g_d6 := HfDgw g_d6 xx
    have g_d7 := HfDgw g_d7 xx
    have g_d8 := HfDgw g_d8 xx
    have hw5 := hw5.gw xx fun ps z => nomatch z
    have g_d9 := HfDgw g_d9 xx
    have g_d10 : HfD f_d10 ⟨"<lambda>", qD, lm_d10.1, [], lm_d10.2.2, cloFrom (cxOf CX0 P w K mg base nmDoo "_law_doors" (defScope s_doors) f (.ref cd) A outer s H E).nox.env.cells lm_d10.2.2.names [], d_d10⟩ lm_d10.2.1 u_d10 (.int 0) _ := hf
    clear xx k1 k2 t11 nf hf
    refine ⟨by show 2 ≤ sizeLine; decide, fun w6 nw6 => ?_⟩
    obtain ⟨o, hw6, xx⟩ := o.new (u := .lst [V.ref f_d9, V.ref f_d10]) ne nw6
    have kx := kx.tr (kx_ext xx)
    have hb := hb.gw xx
    have xk := xk.trans xx
    have g_d1 := HfLgw g_d1 xx
    have g_d2 := HfDgw g_d2 xx
    have g_d3 := HfDgw g_d3 xx
    have g_d4 := HfDgw g_d4 xx
    have g_d5 := HfDgw g_d5 xx
    have g_d6 := HfDgw g_d6 xx
    have g_d7 := HfDgw g_d7 xx
    have g_d8 := HfDgw g_d8 xx
    have hw5 := hw5.gw xx fun ps z => nomatch z
    have g_d9 := HfDgw g_d9 xx
    have g_d10 := HfDgw g_d10 xx
    generalize upd Hx16 w6 (.lst [V.ref f_d9, V.ref f_d10]) = Hx17 at o kx hw6 hb xk g_d1 g_d2 g_d3 g_d4 g_d5 g_d6 g_d7 g_d8 hw5 g_d9 g_d10 ⊢
    clear xx nw6
    refine ⟨w5, w6, _, _, rfl, rfl, hw5.1, hw6.1, by show 10 ≤ sizeLine; omega, fun w7 nw7 cl Tc un => ?_⟩
    clear hw5 hw6
    obtain ⟨o, hw7, xx⟩ := o.new (u := .lst (((([V.ref f_d1, V.ref f_d2, V.ref f_d3] ++ [V.ref f_d4, V.ref f_d5]) ++ [V.ref f_d6]) ++ [V.ref f_d7, V.ref f_d8]) ++ [V.ref f_d9, V.ref f_d10])) ne nw7
    have kx := kx.tr (kx_ext xx)
    have hb := hb.gw xx
    have xk := xk.trans xx
    have g_d1 := HfLgw g_d1 xx
    have g_d2 := HfDgw g_d2 xx
    have g_d3 := HfDgw g_d3 xx
    have g_d4 := HfDgw g_d4 xx
    have g_d5 := HfDgw g_d5 xx
    have g_d6 := HfDgw g_d6 xx
    have g_d7 := HfDgw g_d7 xx
    have g_d8 := HfDgw g_d8 xx
    have g_d9 := HfDgw g_d9 xx
    have g_d10 := HfDgw g_d10 xx
    generalize upd Hx17 w7 (.lst (((([V.ref f_d1, V.ref f_d2, V.ref f_d3] ++ [V.ref f_d4, V.ref f_d5]) ++ [V.ref f_d6]) ++ [V.ref f_d7, V.ref f_d8]) ++ [V.ref f_d9, V.ref f_d10])) = HZ at o kx hw7 un hb xk g_d1 g_d2 g_d3 g_d4 g_d5 g_d6 g_d7 g_d8 g_d9 g_d10 ⊢
    clear xx nw7
    have sm := same_add un
    have xa := ex_same o.tab sm
    have oA := o.ex ne xa
    refine k w7 [f_d1, f_d2, f_d3, f_d4, f_d5, f_d6, f_d7, f_d8, f_d9, f_d10] _ oA (xk.trans fun c u h _ => sm c u h) rfl ⟨sm _ _ hw7.1, hw7.2⟩ fun f hf => ?_
    simp only [List.mem_cons, List.not_mem_nil, or_false] at hf
    rcases hf with e | e | e | e | e | e | e | e | e | e <;> rw [e]
    · refine ref_ofN (ws := [some a, some st]) sc_d1 (fun y hy => sc_d1.free (y, .free) hy rfl) (sub_d1) Tc un rfl rfl (fun i y v q1 q2 => by
          match i, q1, q2 with
          | 0, q1, q2 => cases q1; cases q2; exact ⟨0, rfl, rfl⟩
          | 1, q1, q2 => cases q1; cases q2; exact ⟨1, rfl, rfl⟩
          | i + 2, q1, _ => simp at q1) (fun H1 x => ⟨x _ _ (add_at un g_d1.1) fnL_ne, x _ _ (add_at un g_d1.2) LamX.codeO_ne⟩) (lok_d1 Gstretches kstretches bstretches mstretches) (fun H1 x1 t1 _ Z E2 hE => ?_)
      have D1 : Door K cs H1 E2 a st := ⟨t1, j, n, hb.gw x1, hE⟩
      exact ⟨a, st, rfl, a, st, rfl, D1⟩
    · refine ref_ofN (ws := [some a, some st]) sc_d2 (fun y hy => sc_d2.free (y, .free) hy rfl) (sub_d2) Tc un rfl rfl (fun i y v q1 q2 => by
          match i, q1, q2 with
          | 0, q1, q2 => cases q1; cases q2; exact ⟨0, rfl, rfl⟩
          | 1, q1, q2 => cases q1; cases q2; exact ⟨1, rfl, rfl⟩
          | i + 2, q1, _ => simp at q1) (fun H1 x => ⟨x _ _ (add_at un g_d2.1) fnD_ne, x _ _ (add_at un g_d2.2.1) LamX.codeO_ne, x _ _ (add_at un g_d2.2.2) fun ps z => nomatch z⟩) (lok_d2 Gstops kstops bstops mstops) (fun H1 x1 t1 _ Z E2 hE => ?_)
      have D1 : Door K cs H1 E2 a st := ⟨t1, j, n, hb.gw x1, hE⟩
      exact ⟨a, st, rfl, a, st, rfl, D1⟩
    · refine ref_ofN (ws := [some a, some st]) sc_d3 (fun y hy => sc_d3.free (y, .free) hy rfl) (sub_d3) Tc un rfl rfl (fun i y v q1 q2 => by
          match i, q1, q2 with
          | 0, q1, q2 => cases q1; cases q2; exact ⟨0, rfl, rfl⟩
          | 1, q1, q2 => cases q1; cases q2; exact ⟨1, rfl, rfl⟩
          | i + 2, q1, _ => simp at q1) (fun H1 x => ⟨x _ _ (add_at un g_d3.1) fnD_ne, x _ _ (add_at un g_d3.2.1) LamX.codeO_ne, x _ _ (add_at un g_d3.2.2) fun ps z => nomatch z⟩) (lok_d3 Glaid klaid blaid mlaid) (fun H1 x1 t1 _ Z E2 hE => ?_)
      have D1 : Door K cs H1 E2 a st := ⟨t1, j, n, hb.gw x1, hE⟩
      exact ⟨a, st, rfl, a, st, rfl, D1⟩
    · refine ref_ofN (ws := [some a, some st]) sc_d4 (fun y hy => sc_d4.free (y, .free) hy rfl) (sub_d4) Tc un rfl rfl (fun i y v q1 q2 => by
          match i, q1, q2 with
          | 0, q1, q2 => cases q1; cases q2; exact ⟨0, rfl, rfl⟩
          | 1, q1, q2 => cases q1; cases q2; exact ⟨1, rfl, rfl⟩
          | i + 2, q1, _ => simp at q1) (fun H1 x => ⟨x _ _ (add_at un g_d4.1) fnD_ne, x _ _ (add_at un g_d4.2.1) LamX.codeO_ne, x _ _ (add_at un g_d4.2.2) fun ps z => nomatch z⟩) (lok_d4 Gshown kshown bshown mshown) (fun H1 x1 t1 _ Z E2 hE => ?_)
      have D1 : Door K cs H1 E2 a st := ⟨t1, j, n, hb.gw x1, hE⟩
      exact ⟨a, st, rfl, a, st, rfl, D1⟩
    · refine ref_ofN (ws := [some a, some st]) sc_d5 (fun y hy => sc_d5.free (y, .free) hy rfl) (sub_d5) Tc un rfl rfl (fun i y v q1 q2 => by
          match i, q1, q2 with
          | 0, q1, q2 => cases q1; cases q2; exact ⟨0, rfl, rfl⟩
          | 1, q1, q2 => cases q1; cases q2; exact ⟨1, rfl, rfl⟩
          | i + 2, q1, _ => simp at q1) (fun H1 x => ⟨x _ _ (add_at un g_d5.1) fnD_ne, x _ _ (add_at un g_d5.2.1) LamX.codeO_ne, x _ _ (add_at un g_d5.2.2) fun ps z => nomatch z⟩) (lok_d5 Gjudged kjudged bjudged mjudged) (fun H1 x1 t1 _ Z E2 hE => ?_)
      have D1 : Door K cs H1 E2 a st := ⟨t1, j, n, hb.gw x1, hE⟩
      exact ⟨a, st, rfl, a, st, .non, rfl, D1⟩
    · refine ref_ofN (ws := [some a, some st]) sc_d6 (fun y hy => sc_d6.free (y, .free) hy rfl) (sub_d6) Tc un rfl rfl (fun i y v q1 q2 => by
          match i, q1, q2 with
          | 0, q1, q2 => cases q1; cases q2; exact ⟨0, rfl, rfl⟩
          | 1, q1, q2 => cases q1; cases q2; exact ⟨1, rfl, rfl⟩
          | i + 2, q1, _ => simp at q1) (fun H1 x => ⟨x _ _ (add_at un g_d6.1) fnD_ne, x _ _ (add_at un g_d6.2.1) LamX.codeO_ne, x _ _ (add_at un g_d6.2.2) fun ps z => nomatch z⟩) (lok_d6 MSheet GSheet bSheet mSheet) (fun H1 x1 t1 _ Z E2 hE => ?_)
      have D1 : Door K cs H1 E2 a st := ⟨t1, j, n, hb.gw x1, hE⟩
      exact ⟨a, st, rfl, fun x dx nx ndx _ => ⟨_, a, st, rfl, D1.made nx ndx⟩⟩
    · refine ref_ofN (ws := [some a, some st]) sc_d7 (fun y hy => sc_d7.free (y, .free) hy rfl) (sub_d7) Tc un rfl rfl (fun i y v q1 q2 => by
          match i, q1, q2 with
          | 0, q1, q2 => cases q1; cases q2; exact ⟨0, rfl, rfl⟩
          | 1, q1, q2 => cases q1; cases q2; exact ⟨1, rfl, rfl⟩
          | i + 2, q1, _ => simp at q1) (fun H1 x => ⟨x _ _ (add_at un g_d7.1) fnD_ne, x _ _ (add_at un g_d7.2.1) LamX.codeO_ne, x _ _ (add_at un g_d7.2.2) fun ps z => nomatch z⟩) (lok_d7 MCursor GCursor bCursor mCursor) (fun H1 x1 t1 _ Z E2 hE => ?_)
      have D1 : Door K cs H1 E2 a st := ⟨t1, j, n, hb.gw x1, hE⟩
      exact ⟨a, st, rfl, fun x dx nx ndx _ => ⟨_, a, st, rfl, D1.made nx ndx⟩⟩
    · refine ref_ofN (ws := [some a, some st]) sc_d8 (fun y hy => sc_d8.free (y, .free) hy rfl) (sub_d8) Tc un rfl rfl (fun i y v q1 q2 => by
          match i, q1, q2 with
          | 0, q1, q2 => cases q1; cases q2; exact ⟨0, rfl, rfl⟩
          | 1, q1, q2 => cases q1; cases q2; exact ⟨1, rfl, rfl⟩
          | i + 2, q1, _ => simp at q1) (fun H1 x => ⟨x _ _ (add_at un g_d8.1) fnD_ne, x _ _ (add_at un g_d8.2.1) LamX.codeO_ne, x _ _ (add_at un g_d8.2.2) fun ps z => nomatch z⟩) (lok_d8 Gstepped kstepped bstepped mstepped) (fun H1 x1 t1 _ Z E2 hE => ?_)
      have D1 : Door K cs H1 E2 a st := ⟨t1, j, n, hb.gw x1, hE⟩
      exact ⟨a, st, rfl, fun e l ne nl => ⟨a, st, .ref l, rfl, D1.ex ((Ex.laid t1 ne).trans (Ex.laid (Ex.laid t1 ne).tab nl))⟩⟩
    · refine ref_ofN (ws := [some a, some st]) sc_d9 (fun y hy => sc_d9.free (y, .free) hy rfl) (sub_d9) Tc un rfl rfl (fun i y v q1 q2 => by
          match i, q1, q2 with
          | 0, q1, q2 => cases q1; cases q2; exact ⟨0, rfl, rfl⟩
          | 1, q1, q2 => cases q1; cases q2; exact ⟨1, rfl, rfl⟩
          | i + 2, q1, _ => simp at q1) (fun H1 x => ⟨x _ _ (add_at un g_d9.1) fnD_ne, x _ _ (add_at un g_d9.2.1) LamX.codeO_ne, x _ _ (add_at un g_d9.2.2) fun ps z => nomatch z⟩) (lok_d9 Gplaced kplaced bplaced mplaced) (fun H1 x1 t1 _ Z E2 hE => ?_)
      have D1 : Door K cs H1 E2 a st := ⟨t1, j, n, hb.gw x1, hE⟩
      exact ⟨a, st, rfl, fun e ne => ⟨a, st, .ref e, rfl, D1.ex (Ex.laid t1 ne)⟩⟩
    · refine ref_ofN (ws := [some a, some st]) sc_d10 (fun y hy => sc_d10.free (y, .free) hy rfl) (sub_d10) Tc un rfl rfl (fun i y v q1 q2 => by
          match i, q1, q2 with
          | 0, q1, q2 => cases q1; cases q2; exact ⟨0, rfl, rfl⟩
          | 1, q1, q2 => cases q1; cases q2; exact ⟨1, rfl, rfl⟩
          | i + 2, q1, _ => simp at q1) (fun H1 x => ⟨x _ _ (add_at un g_d10.1) fnD_ne, x _ _ (add_at un g_d10.2.1) LamX.codeO_ne, x _ _ (add_at un g_d10.2.2) fun ps z => nomatch z⟩) (lok_d10 MTable GTable bTable mTable) (fun H1 x1 t1 _ Z E2 hE => ?_)
      have D1 : Door K cs H1 E2 a st := ⟨t1, j, n, hb.gw x1, hE⟩
      exact ⟨a, st, rfl, fun x dx nx ndx _ => ⟨_, a, st, .int 0, rfl, D1.made nx ndx⟩⟩
end
end TGK

namespace TGK
open TG
open PySem PySem.Spec PyProof.Rows L2 NdefX GenW Gx Lv Dl EnT
abbrev rLenK (K : PySem.W.Frag) : List V → Hp → VK → Prop := fun xs H Q => ∃ (p : Addr) (ys : List V), xs = [V.ref p] ∧ (SqL K H p ys ∨ SqT K H p ys) ∧ Q (V.int (ys.length : Nat)) H
theorem cutG (G C : L2.St → Hp → Prop) {X : Prop} (f : (∀ σ H, C σ H → G σ H) → X) (g : ∀ σ H, C σ H → G σ H) : X := f g
/-! ### _law_bad_page -/
def GoodV (H : Hp) (v : V) : Prop := ∃ (q : Addr) (r : List Str), v = .ref q ∧ H q = some (.tup (sV r)) ∧ RowOk r
/-- rows, good ones ahead of c, a bad one there -/
structure Mix (b l : Addr) (H : Hp) (D : Addr) (xs : List V) (c : Nat) : Prop where
  hd : Hd b l H D (.lst xs)
  ok : ∀ i v, i < c → xs[i]? = some v → GoodV H v
  bad : c < xs.length → ∃ v, xs[c]? = some v ∧ BadRb b l H v
section
variable {b l D : Addr} {H H' : Hp} {xs : List V} {c : Nat} {v : V}
theorem tup_kb {q : Addr} {us : List V} (B : BoxAt H b l) (x : KB b l H H') (h : H q = some (.tup us)) : H' q = some (.tup us) := kb_nl B x h fun us z => nomatch z
theorem GoodV.kb (h : GoodV H v) (B : BoxAt H b l) (x : KB b l H H') : GoodV H' v := by
  obtain ⟨q, r, e, hq, hr⟩ := h
  exact ⟨q, r, e, tup_kb B x hq, hr⟩
theorem Mix.kb (m : Mix b l H D xs c) (B : BoxAt H b l) (x : KB b l H H') : Mix b l H' D xs c :=
  ⟨m.hd.kb x, fun i v hi hv => (m.ok i v hi hv).kb B x, fun h => by
    obtain ⟨v, e, hv⟩ := m.bad h
    exact ⟨v, e, hv.kb B x⟩⟩
theorem GoodV.upd {ys zs : List V} (h : GoodV H v) (hD : H D = some (.lst ys)) : GoodV (upd H D (.lst zs)) v := by
  obtain ⟨q, r, e, hq, hr⟩ := h
  exact ⟨q, r, e, put_nl hD hq (fun us z => nomatch z), hr⟩
theorem NoT.upd {ys zs : List V} (h : NoT H v) (hD : H D = some (.lst ys)) : NoT (upd H D (.lst zs)) v := by
  rcases h with h | h | h | ⟨t, xs, e, h⟩
  · exact .inl h
  · exact .inr (.inl h)
  · exact .inr (.inr (.inl h))
  · exact .inr (.inr (.inr ⟨t, xs, e, put_nl hD h fun us z => nomatch z⟩))
theorem BadRb.upd {ys zs : List V} (h : BadRb b l H v) (hD : Hd b l H D (.lst ys)) : BadRb b l (upd H D (.lst zs)) v := by
  obtain ⟨h, q⟩ := h
  refine ⟨?_, fun t us e h2 => ?_⟩
  · rcases h with h | h | h | ⟨t, us, e, h⟩ | ⟨t, us, e, h, q⟩
    · exact .inl h
    · exact .inr (.inl h)
    · exact .inr (.inr (.inl h))
    · by_cases z : t = D
      · exact .inr (.inr (.inr (.inl ⟨t, zs, e, by rw [z]; exact upd_same⟩)))
      · exact .inr (.inr (.inr (.inl ⟨t, us, e, by rw [upd_ne z]; exact h⟩)))
    · refine .inr (.inr (.inr (.inr ⟨t, us, e, put_nl hD.1 h (fun us z => nomatch z), ?_⟩)))
      rcases q with q | ⟨q1, q2, q3, u, q4, q5⟩
      · exact .inl q
      · exact .inr ⟨q1, q2, fun x hx => (q3 x hx).imp (fun z => z.upd hD.1) id, u, q4, q5.imp (fun z => z.upd hD.1) id⟩
  · by_cases z : t = D
    · rw [z]
      exact hD.2
    · rw [upd_ne z] at h2
      exact q t us e h2
theorem Mix.set {p : Nat} (m : Mix b l H D xs c) (hv : BadRb b l H v) (hp : p < xs.length) (hc : c ≤ xs.length) : Mix b l (upd H D (.lst (xs.set p v))) D (xs.set p v) (if p < c then p else c) := by
  refine ⟨⟨upd_same, m.hd.2⟩, fun i u hi hu => ?_, fun h => ?_⟩
  · have hi2 : i < c ∧ i < p ∨ i < c ∧ ¬ p < c := by split at hi <;> omega
    have hne : i ≠ p ∨ i = p := by omega
    by_cases hip : i = p
    · omega
    · rw [List.getElem?_set_ne (by omega)] at hu
      exact (m.ok i u (by omega) hu).upd m.hd.1
  · by_cases hpc : p < c
    · rw [if_pos hpc]
      exact ⟨v, List.getElem?_set_self hp, hv.upd m.hd⟩
    · rw [if_neg hpc] at h ⊢
      rw [List.length_set] at h
      by_cases e : c = p
      · rw [e]
        exact ⟨v, List.getElem?_set_self hp, hv.upd m.hd⟩
      · obtain ⟨u, e1, e2⟩ := m.bad h
        exact ⟨u, by rw [List.getElem?_set_ne (by omega)]; exact e1, e2.upd m.hd⟩
theorem Mix.rows {K : PySem.W.Frag} (m : Mix b l H D xs c) (h1 : c < xs.length ∨ 30 < xs.length ∧ 30 ≤ c) (h100 : xs.length ≤ 100) : BadPg K H (.ref D) (if 30 < c then 30 else c) := by
  have g : ∀ i v, i < c → xs[i]? = some v → ∃ q r, v = .ref q ∧ SqT K H q (sV r) ∧ RowOk r := fun i v hi hv => by
    obtain ⟨q, r, e, hq, hr⟩ := m.ok i v hi hv
    exact ⟨q, r, e, SqT.of hq, hr⟩
  refine .inr ⟨D, xs, rfl, m.hd.1, ?_⟩
  by_cases h : 30 < c
  · rw [if_pos h]
    exact ⟨by omega, Nat.le_refl _, h100, fun i v hi hv => g i v (by omega) hv, .inl rfl⟩
  · rw [if_neg h]
    refine ⟨by omega, by omega, h100, g, ?_⟩
    rcases h1 with h1 | h1
    · obtain ⟨v, e, hv⟩ := m.bad h1
      exact .inr ⟨v, e, hv.1⟩
    · exact .inl (by omega)
theorem ixp {n p : Nat} (h : p < n) : ixN n ((p : Nat) : Int) = some p := by
  unfold ixN
  rw [if_pos (by omega), if_pos (by omega)]
  rfl
end
abbrev nmBP : List Str := ["_law_box", "_law_good", "_law_many", "_law_rows", "_law_way", "_law_at", "_law_turn", "_law_place", "_law_k"]
theorem sc_BP : FnScope nmBP ["_law_box"] (defScope s_bad_page) := ⟨rfl, rfl, rfl, by decide +kernel, rfl, by decide +kernel, by decide +kernel⟩
section
variable {P : Program} {w : World} {K : PySem.W.Frag} {mg : Str → Option Value} {base : Heap}
def spBadPg (K : PySem.W.Frag) : Sp := fun vs H Q _ => ∃ (b l : Addr), vs = [.ref b] ∧ BoxAt H b l ∧ ∀ (t : Addr) (v : V) (n : Nat) (H' : Hp), BoxAt H' b l → KB b l H H' → H' t = some (.tup [v, .int (n : Nat)]) → n ≤ 30 → (∀ H2, KB b l H' H2 → BadPg K H2 v n) → Q (.ref t) H'
theorem ok_BP {f gG g4 gB : Addr} {fd fdG fd4 fdB : FuncData} (T : Txt mg) (F : Fun K "_law_bad_page" "_law_bad_page" s_bad_page f fd)
    (GG : FnOk P w K mg base CX0 1 gG fdG ["_law_box", "_law_many"] spTakeW) (kG : PySem.W.keepIn K (.ref gG) = true) (bG : Binds K fdG ["_law_box", "_law_many"] []) (mG : mg "_law_take" = some (.ref gG))
    (G4 : FnOk P w K mg base CX0 5 g4 fd4 ["_law_box", "_law_most"] spPageD) (k4 : PySem.W.keepIn K (.ref g4) = true) (b4 : Binds K fd4 ["_law_box", "_law_most"] []) (m4 : mg "_law_page" = some (.ref g4))
    (GB : FnOk P w K mg base CX0 3 gB fdB ["_law_box", "_law_row_here"] (spBadR K)) (kB : PySem.W.keepIn K (.ref gB) = true) (bB : Binds K fdB ["_law_box", "_law_row_here"] []) (mB : mg "_law_bad_row" = some (.ref gB)) :
    FnOk P w K mg base CX0 6 f fd ["_law_box"] (spBadPg K) := by
  refine F.ok sc_BP (fun vs H Q E h => ?_) (fun cdv A outer s H vs Q E hr h => ?_)
  · obtain ⟨b, l, rfl, _⟩ := h
    rfl
  · obtain ⟨b, l, rfl, hB, k⟩ := h
    have nd := sc_BP.nd
    have szl : (9000 : Nat) < sizeLine := by decide
    have r1 : Room 1 _ := hr.mono (by decide)
    have r3 : Room 3 _ := hr.mono (by decide)
    have r5 : Room 5 _ := hr.mono (by decide)
    refine ⟨_, (pss_cons (ps_set (i := 1) nd rfl (.inr rfl) (pe_call G4 r5 (by rfl) m4 k4 b4 .nil pass0 (pa_cons (pv 0) (pa_cons pe_int pa_nil))))
      (pss_cons (ps_set (i := 2) nd rfl (.inl rfl) (pe_ix ix_list (pe_lst (pa_cons (pe_op op_add pe_int (pe_call GG r1 (by rfl) mG kG bG .nil pass0 (pa_cons (pv 0) (pa_cons pe_int pa_nil)))) (pa_cons (pe_op op_add pe_int (pe_call GG r1 (by rfl) mG kG bG .nil pass0 (pa_cons (pv 0) (pa_cons pe_int pa_nil)))) (pa_cons (pe_op op_add pe_int (pe_call GG r1 (by rfl) mG kG bG .nil pass0 (pa_cons (pv 0) (pa_cons pe_int pa_nil)))) pa_nil)))) (pe_call GG r1 (by rfl) mG kG bG .nil pass0 (pa_cons (pv 0) (pa_cons pe_int pa_nil))) (fun _ _ => rfl)))
      (pss_cons (ps_setLc (i := 3) (own := [("_law_k", 8)]) (g := gName 8) (tt := tYes) rfl nd rfl rfl (sw_true rfl rfl rfl (by decide +kernel)) (pi_range1 (by rfl) T.range (pa_cons (pv 2) pa_nil)) (blkOk_by (own := [("_law_k", 8)]) (N := nmBP) (sc := defScope s_bad_page) (by decide +kernel)) (fun _ _ _ _ _ => pg_name (i := 8) nd rfl (Or.inl rfl)) (fun _ _ _ _ _ => pts_nil) (fun _ _ _ _ _ => (pe_ix (r := rIxL K) ix_list (pv 1) (pe_op op_mod (pv 8) (pe_callB (r := rLenK K) call_len_seq (by rfl) T.len PySem.boot_len (pa_cons (pv 1) pa_nil))) (fun _ _ => rfl))))
      (pss_cons (ps_set (i := 4) nd rfl (.inl rfl) (pe_call GG r1 (by rfl) mG kG bG .nil pass0 (pa_cons (pv 0) (pa_cons pe_int pa_nil))))
      (pss_cons (ps_if (pt_cmpR op_eq (pv 4) pe_int (nomark _)) (pss_one (ps_ret (pe_tup (pa_cons (pe_ix ix_list (pe_lst (pa_cons (pe_lst pa_nil) (pa_cons pe_non (pa_cons (pe_callTy call_tuple_of (by rfl) T.tuple (by decide +kernel) (pa_cons (pv 3) pa_nil)) (pa_cons pe_str (pa_cons pe_int pa_nil)))))) (pe_call GG r1 (by rfl) mG kG bG .nil pass0 (pa_cons (pv 0) (pa_cons pe_int pa_nil))) (fun _ _ => rfl)) (pa_cons pe_int pa_nil))))) pss_nil)
      (pss_cons (ps_if (PW.pt (pw_and (pt_cmpR op_eq (pv 4) pe_int (nomark _)) (pw_and1 (pt_cmpR op_gt (pv 2) pe_int (nomark _))))) (pss_one (ps_ret (pe_tup (pa_cons (pv 3) (pa_cons pe_int pa_nil))))) pss_nil)
      (pss_cons (ps_set (i := 5) nd rfl (.inl rfl) (pv 2))
      (pss_cons (ps_for PassesOwn.never rfl (pi_range1 (by rfl) T.range (pa_cons (pe_op op_add pe_int (pe_call GG r1 (by rfl) mG kG bG .nil pass0 (pa_cons (pv 0) (pa_cons pe_int pa_nil)))) pa_nil)) (pg_name (i := 6) nd rfl (.inl rfl))
      (pss_cons (ps_set (i := 7) nd rfl (.inl rfl) (pe_call GG r1 (by rfl) mG kG bG .nil pass0 (pa_cons (pv 0) (pa_cons (pv 2) pa_nil))))
      (pss_cons (ps_set (i := 5) nd rfl (.inl rfl) (pe_callB (call_min2 rfl) (by rfl) T.min (by decide +kernel) (pa_cons (pv 5) (pa_cons (pv 7) pa_nil))))
      (pss_one (ps_asg (pe_call GB r3 (by rfl) mB kB bB .nil pass0 (pa_cons (pv 0) (pa_cons (pe_ix ix_list (pv 1) pe_int (fun _ _ => rfl)) pa_nil))) (pg_sub (pv 3) (pv 7) set_list))))))
      (pss_one (ps_ret (pe_tup (pa_cons (pv 3) (pa_cons (pe_callB (call_min2 rfl) (by rfl) T.min (by decide +kernel) (pa_cons (pv 5) (pa_cons pe_int pa_nil))) pa_nil))))))))))))), ?_⟩
    refine ⟨_, rfl, b, l, 6, rfl, hB, by decide, by decide, fun pg as rows H1 hB1 x1 np pb pl hp hal hrow hO => ?_⟩
    have hpg : Hd b l H1 pg (.lst (as.map V.ref)) := ⟨hp, pb, pl⟩
    have la : (as.map V.ref).length = rows.length := by rw [List.length_map, hal]
    have hpos := hO.pos
    have h30 := hO.len
    -- how many
    refine ⟨_, rfl, b, l, 6, rfl, hB1, by decide, by decide, fun u1 H2 a0 a1 hB2 x2 => ⟨1, u1, rfl, rfl, _, rfl, b, l, 30, rfl, hB2, by decide, by decide, fun u2 H3 b0 b1 hB3 x3 => ⟨1, u2, rfl, rfl, _, rfl, b, l, 8, rfl, hB3, by decide, by decide, fun u3 H4 c0 c1 hB4 x4 => ⟨31, u3, rfl, rfl, by show 3 ≤ sizeLine; decide, fun q0 nq0 => ⟨_, rfl, b, l, 3, rfl, box_new hB4 nq0, by decide, by decide, fun z H5 z0 z1 hB5 x5 => ?_⟩⟩⟩⟩⟩
    have y5 := (((x2.trans x3).trans x4).trans (kb_new nq0)).trans x5
    obtain ⟨nb0, nl0⟩ := new_ne hB4 nq0
    have hq := x5 _ _ (upd_same (H := H4) (a := q0) (o := .lst [V.int (1 + u1), V.int (1 + u2), V.int (31 + u3)])) nb0 nl0
    obtain ⟨m, hm, em⟩ := pick (xs := [1 + u1, 1 + u2, 31 + u3]) (i := z) z0 z1
    have hm2 : 1 ≤ m ∧ m ≤ 38 := by
      simp only [List.mem_cons, List.not_mem_nil, or_false] at hm
      omega
    refine ⟨q0, _, _, .int m, rfl, rfl, SqL.of hq, atI_map (f := V.int) em, ?_⟩
    have hpg5 := hpg.kb y5
    have row5 : ∀ (i : Nat) (q : Addr) (r : List Str), as[i]? = some q → rows[i]? = some r → H5 q = some (.tup (sV r)) := fun i q r e1 e2 => tup_kb hB1 y5 (hrow i q r e1 e2)
    have y5 := x1.trans y5
    clear x2 x3 x4 x5 hB2 hB3 hB4 nq0 nb0 nl0 hq hm em hpg hrow hp hB1 x1 a0 a1 b0 b1 c0 c1 z0 z1
    obtain ⟨M, rfl⟩ := Int.eq_ofNat_of_zero_le (show 0 ≤ m by omega)
    have hM : 1 ≤ M ∧ M ≤ 38 := by omega
    -- rows
    refine ⟨_, rfl, ((M : Nat) : Int), rfl, by omega, by omega, fun D nD => lc_range (n := M) (fun i H' => KB b l H5 H' ∧ BoxAt H' b l ∧ ∃ xs : List V, Hd b l H' D (.lst xs) ∧ xs.length = i ∧ ∀ v ∈ xs, GoodV H' v) ⟨kb_new nD, box_new hB5 nD, [], ⟨upd_same, new_ne hB5 nD⟩, rfl, fun v h => nomatch h⟩ ?_ ?_⟩
    · rintro i H6 hi ⟨x6, hB6, xs, hD, hl, hg⟩
      have hpg6 := hpg5.kb x6
      have hix : i % rows.length < rows.length := Nat.mod_lt _ hpos
      obtain ⟨q, r, eq_, er⟩ : ∃ q r, as[i % rows.length]? = some q ∧ rows[i % rows.length]? = some r := ⟨_, _, List.getElem?_eq_getElem (by omega), List.getElem?_eq_getElem hix⟩
      refine ⟨rfl, _, rfl, _, rfl, _, rfl, pg, _, rfl, .inl (SqL.of hpg6.1), _, _, rfl, rfl, by rw [la]; omega, pg, _, _, .ref q, rfl, rfl, SqL.of hpg6.1, ?_, xs, hD.1, by omega, ?_⟩
      · rw [la, Int.zero_add, show ((i : Nat) : Int) % ((rows.length : Nat) : Int) = ((i % rows.length : Nat) : Int) from rfl]
        exact atI_nat (by rw [List.getElem?_map, eq_]; rfl)
      · have hr := hO.rows r (List.mem_of_getElem? er)
        have hq6 := tup_kb hB5 x6 (row5 _ q r eq_ er)
        refine ⟨kb_upd x6 nD, box_upd hB6 hD.2.1 hD.2.2, xs ++ [.ref q], ⟨upd_same, hD.2⟩, by rw [List.length_append, hl]; rfl, fun v hv => ?_⟩
        rcases List.mem_append.mp hv with h | h
        · exact (hg v h).upd hD.1
        · rw [List.mem_singleton.mp h]
          exact GoodV.upd ⟨q, r, rfl, hq6, hr⟩ hD.1
    rintro H6 ⟨x6, hB6, xs, hD, hl, hg⟩
    have nD0 := new_old y5 hB5 nD
    have pD : pg ≠ D := fun z => by
      have := hpg5.1
      rw [z, nD] at this
      cases this
    have hpg6 := hpg5.kb x6
    have row6 : ∀ (i : Nat) (q : Addr) (r : List Str), as[i]? = some q → rows[i]? = some r → H6 q = some (.tup (sV r)) := fun i q r e1 e2 => tup_kb hB5 x6 (row5 i q r e1 e2)
    have y6 := y5.trans x6
    clear x6 hpg5 row5 y5
    -- which way
    refine ⟨_, rfl, b, l, 8, rfl, hB6, by decide, by decide, fun wy H7 w0 w1 hB7 x7 => ?_⟩
    have y7 := y6.trans x7
    have hD := hD.kb x7
    have hg : ∀ v ∈ xs, GoodV H7 v := fun v hv => (hg v hv).kb hB6 x7
    have hpg7 := hpg6.kb x7
    have row7 : ∀ (i : Nat) (q : Addr) (r : List Str), as[i]? = some q → rows[i]? = some r → H7 q = some (.tup (sV r)) := fun i q r e1 e2 => tup_kb hB6 x7 (row6 i q r e1 e2)
    clear x7 hpg6 row6 y6 hB6 hB5
    refine ⟨_, rfl, rfl, ?_⟩
    by_cases e0 : wy = 0
    · refine ⟨true, dT (by rw [e0]), iteT ?_⟩
      -- no list of rows at all
      refine ⟨Nat.zero_le _, fun e1 ne1 => ?_⟩
      have y8 := y7.trans (kb_new (o := .lst []) ne1)
      have hB8 := box_new (o := .lst []) hB7 ne1
      have he : Hd b l (upd H7 e1 (.lst [])) e1 (.lst []) := ⟨upd_same, new_ne hB7 ne1⟩
      have hD8 := hD.kb (kb_new (o := .lst []) ne1)
      generalize upd H7 e1 (.lst []) = H8 at y8 hB8 he hD8 ⊢
      refine ⟨_, rfl, D, xs, rfl, .inl ⟨SqL.of hD8.1, fun tt ntt => ?_⟩⟩
      have y9 := y8.trans (kb_new (o := .tup xs) ntt)
      have hB9 := box_new (o := .tup xs) hB8 ntt
      have he := he.kb (kb_new (o := .tup xs) ntt)
      have ht : Hd b l (upd H8 tt (.tup xs)) tt (.tup xs) := ⟨upd_same, new_ne hB8 ntt⟩
      generalize upd H8 tt (.tup xs) = H9 at y9 hB9 he ht ⊢
      refine ⟨by show 5 ≤ sizeLine; decide, fun q1 nq1 => ⟨_, rfl, b, l, 5, rfl, box_new hB9 nq1, by decide, by decide, fun z H10 z0 z1 hB10 x10 => ?_⟩⟩
      obtain ⟨nb1, nl1⟩ := new_ne hB9 nq1
      have hq := x10 _ _ (upd_same (H := H9) (a := q1) (o := .lst [V.ref e1, V.non, V.ref tt, V.str "ab", V.int 7])) nb1 nl1
      have y10 := (kb_new (o := .lst [V.ref e1, V.non, V.ref tt, V.str "ab", V.int 7]) nq1).trans x10
      have he := he.kb y10
      have ht := ht.kb y10
      have y10 := y9.trans y10
      obtain ⟨v, hv, ev⟩ := pick (xs := ([V.ref e1, V.non, V.ref tt, V.str "ab", V.int 7] : List V)) (i := z) z0 z1
      refine ⟨q1, _, _, v, rfl, rfl, SqL.of hq, ev, by show 2 ≤ sizeLine; decide, fun t nt => ?_⟩
      refine k t v 0 _ (box_new hB10 nt) (y10.trans (kb_new nt)) upd_same (by decide) fun H2 x2 => ?_
      have he := (he.kb (kb_new nt)).kb x2
      have ht := (ht.kb (kb_new nt)).kb x2
      simp only [List.mem_cons, List.not_mem_nil, or_false] at hv
      rcases hv with rfl | rfl | rfl | rfl | rfl
      · exact .inl ⟨rfl, .inr (.inr (.inr (.inr ⟨e1, rfl, he.1⟩)))⟩
      · exact .inl ⟨rfl, .inl rfl⟩
      · exact .inl ⟨rfl, .inr (.inr (.inr (.inl ⟨tt, xs, rfl, ht.1⟩)))⟩
      · exact .inl ⟨rfl, .inr (.inr (.inl ⟨_, rfl⟩))⟩
      · exact .inl ⟨rfl, .inr (.inl ⟨_, rfl⟩)⟩
    refine ⟨false, dF (fun h => e0 (by injection h)), iteF ?_⟩
    have mix0 : Mix b l H7 D xs M := ⟨hD, fun i v _ hv => hg v (List.mem_of_getElem? hv), fun h => by omega⟩
    clear hg e0
    -- all good ones, too many
    refine' cutG _ (fun σ H' => σ = [some (.ref b), some (.ref pg), some (.int (M : Nat)), some (.ref D), some (.int wy), none, none, none, none] ∧ H' = H7) (fun rest => _) _
    rotate_left
    · refine ⟨_, rfl, rfl, ?_⟩
      by_cases e1 : wy = 1
      · refine ⟨true, dT (by rw [e1]), iteT ?_⟩
        refine ⟨_, rfl, _, _, rfl, rfl, ?_⟩
        by_cases e2 : 30 < M
        · refine ⟨true, dT (by omega), iteT ⟨_, rfl, by show 2 ≤ sizeLine; decide, fun t nt => ?_⟩⟩
          refine k t (.ref D) 30 _ (box_new hB7 nt) (y7.trans (kb_new nt)) upd_same (by decide) fun H2 x2 => ?_
          have mx := ((mix0.kb hB7 (kb_new nt)).kb (box_new hB7 nt) x2).rows (K := K) (.inr ⟨by omega, by omega⟩) (by omega)
          rw [if_pos e2] at mx
          exact mx
        · refine ⟨false, dF (fun h => e2 (by omega)), iteF ?_⟩
          exact rest _ _ ⟨rfl, rfl⟩
      · refine ⟨false, dF (fun h => e1 (by injection h)), iteF (iteF ?_)⟩
        exact rest _ _ ⟨rfl, rfl⟩
    rintro σ Hx ⟨rfl, rfl⟩
    -- bad ones at places
    refine ⟨_, rfl, _, rfl, b, l, 2, rfl, hB7, by decide, by decide, fun u H8 u0 u1_ hB8 x8 => ⟨1, u, rfl, rfl, 1 + u, rfl, by omega, by omega, ?_⟩⟩
    have y8 := y7.trans x8
    have mix8 := mix0.kb hB7 x8
    have hpg8 := hpg7.kb x8
    have row8 : ∀ (i : Nat) (q : Addr) (r : List Str), as[i]? = some q → rows[i]? = some r → H8 q = some (.tup (sV r)) := fun i q r e1 e2 => tup_kb hB7 x8 (row7 i q r e1 e2)
    clear mix0 hpg7 row7 y7 x8 hB7 hD
    refine for_range (n := (1 + u).toNat) (fun i σ H' => ∃ (c : Nat) (ys : List V) (c6 c7 : Option V), σ = [some (.ref b), some (.ref pg), some (.int (M : Nat)), some (.ref D), some (.int wy), some (.int (c : Nat)), c6, c7, none] ∧ BoxAt H' b l ∧ KB b l H H' ∧ Hd b l H' pg (.lst (as.map V.ref)) ∧ (∀ (i : Nat) (q : Addr) (r : List Str), as[i]? = some q → rows[i]? = some r → H' q = some (.tup (sV r))) ∧ Mix b l H' D ys c ∧ ys.length = M ∧ c ≤ M ∧ (0 < i → c < M)) ⟨M, xs, none, none, rfl, hB8, y8, hpg8, row8, mix8, hl, Nat.le_refl _, fun h => absurd h (by decide)⟩ ?_ ?_
    · rintro i σ H9 hi ⟨c, ys, c6, c7, rfl, hB9, y9, hpg9, row9, mx, hyl, hcM, _⟩
      refine ⟨_, rfl, _, rfl, b, l, _, rfl, hB9, by omega, by omega, fun pv H10 p0 p1 hB10 x10 => ⟨_, rfl, _, rfl, _, _, rfl, ?_⟩⟩
      obtain ⟨p, rfl⟩ := Int.eq_ofNat_of_zero_le p0
      have hp : p < M := by omega
      have y10 := y9.trans x10
      have mx10 := mx.kb hB9 x10
      have hpg10 := hpg9.kb x10
      have row10 : ∀ (i : Nat) (q : Addr) (r : List Str), as[i]? = some q → rows[i]? = some r → H10 q = some (.tup (sV r)) := fun i q r e1 e2 => tup_kb hB9 x10 (row9 i q r e1 e2)
      clear mx hpg9 row9 y9 x10 hB9
      have e : (if ((p : Nat) : Int) < ((c : Nat) : Int) then ((p : Nat) : Int) else ((c : Nat) : Int)) = ((if p < c then p else c : Nat) : Int) := by
        by_cases h : p < c
        · rw [if_pos (by omega), if_pos h]
        · rw [if_neg (by omega), if_neg h]
      rw [e]
      obtain ⟨q, r, eq_, er⟩ : ∃ q r, as[0]? = some q ∧ rows[0]? = some r := ⟨_, _, List.getElem?_eq_getElem (by omega), List.getElem?_eq_getElem hpos⟩
      have hr := hO.rows r (List.mem_of_getElem? er)
      refine ⟨_, rfl, _, rfl, pg, _, _, .ref q, rfl, rfl, SqL.of hpg10.1, ?_, b, l, q, r, rfl, hB10, row10 0 q r eq_ er, hr, fun bv H11 hB11 x11 hb => ?_⟩
      · exact atI_nat (j := 0) (by rw [List.getElem?_map, eq_]; rfl)
      have y11 := y10.trans x11
      have mx11 := mx10.kb hB10 x11
      have hpg11 := hpg10.kb x11
      have row11 : ∀ (i : Nat) (q : Addr) (r : List Str), as[i]? = some q → rows[i]? = some r → H11 q = some (.tup (sV r)) := fun i q r e1 e2 => tup_kb hB10 x11 (row10 i q r e1 e2)
      clear mx10 hpg10 row10 y10 x11 hB10
      refine ⟨_, rfl, _, rfl, D, ys, _, p, rfl, rfl, mx11.hd.1, ixp (by omega), ?_⟩
      have hyp : p < ys.length := by omega
      exact ⟨if p < c then p else c, ys.set p bv, _, _, rfl, box_upd hB11 mx11.hd.2.1 mx11.hd.2.2, kb_upd y11 nD0, ⟨by rw [upd_ne pD]; exact hpg11.1, hpg11.2⟩, fun i q r e1 e2 => put_nl mx11.hd.1 (row11 i q r e1 e2) (fun us z => nomatch z), mx11.set hb hyp (by omega), by rw [List.length_set]; exact hyl, by split <;> omega, fun _ => by split <;> omega⟩
    rintro σ H9 ⟨c, ys, c6, c7, rfl, hB9, y9, hpg9, row9, mx, hyl, hcM, hc⟩
    have hc := hc (by omega)
    refine ⟨_, rfl, _, rfl, _, _, rfl, by show 2 ≤ sizeLine; decide, fun t nt => ?_⟩
    have e : (if (30 : Int) < ((c : Nat) : Int) then (30 : Int) else ((c : Nat) : Int)) = ((if 30 < c then 30 else c : Nat) : Int) := by
      by_cases h : 30 < c
      · rw [if_pos (by omega), if_pos h]
        rfl
      · rw [if_neg (by omega), if_neg h]
    rw [e]
    refine k t (.ref D) (if 30 < c then 30 else c) _ (box_new hB9 nt) (y9.trans (kb_new nt)) upd_same (by split <;> omega) fun H2 x2 => ?_
    exact ((mx.kb hB9 (kb_new nt)).kb (box_new hB9 nt) x2).rows (.inl (by omega)) (by omega)
end
end TGK

namespace TGK
open TG
open PySem PySem.Spec PyProof.Rows L2 NdefX GenW Gx Lv Dl EnT
section
theorem rep_len {α : Type} (xs : List α) : ∀ n : Nat, (List.replicate n xs).flatten.length = n * xs.length
  | 0 => by simp
  | n + 1 => by rw [List.replicate_succ, List.flatten_cons, List.length_append, rep_len xs n]; rw [Nat.succ_mul]; omega
theorem rep_mem {α : Type} {xs : List α} {x : α} : ∀ {n : Nat}, x ∈ (List.replicate n xs).flatten → x ∈ xs
  | 0, h => by simp at h
  | n + 1, h => by
    rw [List.replicate_succ, List.flatten_cons] at h
    rcases List.mem_append.mp h with h | h
    · exact h
    · exact rep_mem h
theorem rep_map {α β : Type} (f : α → β) (xs : List α) : ∀ n : Nat, (List.replicate n (xs.map f)).flatten = ((List.replicate n xs).flatten).map f
  | 0 => rfl
  | n + 1 => by rw [List.replicate_succ, List.replicate_succ, List.flatten_cons, List.flatten_cons, List.map_append, rep_map f xs n]
/-- a page thirty times, its first thirty rows -/
theorem full_ok {rows : List (List Str)} (h : PgOk rows) : ((List.replicate 30 rows).flatten.take 30).length = 30 ∧ PgOk ((List.replicate 30 rows).flatten.take 30) := by
  have h1 := h.pos
  have hl : ((List.replicate 30 rows).flatten.take 30).length = 30 := by
    rw [List.length_take, rep_len]
    omega
  exact ⟨hl, by omega, by omega, fun r hr => h.rows r (rep_mem (List.mem_of_mem_take hr))⟩
end
/-- the rows' tuples themselves -/
def PrAt (as : List Addr) (rows : List (List Str)) (H : Hp) : Prop := ∀ (i : Nat) (q : Addr) (r : List Str), as[i]? = some q → rows[i]? = some r → H q = some (.tup (sV r))
section
variable {K : PySem.W.Frag} {cs : List (Addr × Addr)} {b l c r : Addr} {as as2 : List Addr} {rows rows2 : List (List Str)} {H H' : Hp}
theorem PrAt.kx (h : PrAt as rows H) (B : BoxAt H b l) (x : KX b l H H') : PrAt as rows H' := fun i q r e1 e2 => by
  have e := h i q r e1 e2
  obtain ⟨ns, st, b1, b2, _⟩ := B
  exact x _ _ e (fun ps z => nomatch z) (fun z => by rw [z, b1] at e; cases e) (fun z => by rw [z, b2] at e; cases e)
theorem PrAt.toRows (h : PrAt as rows H) (hl : as.length = rows.length) : RowsAt K H as rows := ⟨hl, fun i q r e1 e2 => SqT.of (h i q r e1 e2)⟩
theorem PrAt.app (h1 : PrAt as rows H) (h2 : PrAt as2 rows2 H) (hl : as.length = rows.length) : PrAt (as ++ as2) (rows ++ rows2) H := fun i q r e1 e2 => by
  by_cases hi : i < as.length
  · rw [List.getElem?_append_left hi] at e1
    rw [List.getElem?_append_left (by omega)] at e2
    exact h1 i q r e1 e2
  · rw [List.getElem?_append_right (by omega)] at e1 e2
    rw [hl] at e1
    exact h2 _ q r e1 e2
theorem PrAt.rep (h : PrAt as rows H) (hl : as.length = rows.length) : ∀ n : Nat, PrAt (List.replicate n as).flatten (List.replicate n rows).flatten H
  | 0 => fun i q r e1 _ => by cases e1
  | n + 1 => by
    rw [List.replicate_succ, List.replicate_succ, List.flatten_cons, List.flatten_cons]
    exact h.app (PrAt.rep h hl n) hl
theorem PrAt.take (h : PrAt as rows H) (n : Nat) : PrAt (as.take n) (rows.take n) H := fun i q r e1 e2 => by
  rw [List.getElem?_take] at e1 e2
  by_cases hi : i < n
  · rw [if_pos hi] at e1 e2
    exact h i q r e1 e2
  · rw [if_neg hi] at e1
    cases e1
end
/-- a good page beside the box -/
structure GoodQ (b l : Addr) (H : Hp) (pg : Addr) (as : List Addr) (rows : List (List Str)) : Prop where
  hd : Hd b l H pg (.lst (as.map V.ref))
  pr : PrAt as rows H
  ln : as.length = rows.length
section
variable {K : PySem.W.Frag} {b l pg : Addr} {H H' : Hp} {as : List Addr} {rows : List (List Str)}
theorem GoodQ.gw (g : GoodQ b l H pg as rows) (x : LamX.ExtN H H') : GoodQ b l H' pg as rows := ⟨g.hd.gw x (fun ps z => nomatch z), fun i q r e1 e2 => x _ _ (g.pr i q r e1 e2) fun ps z => (nomatch z), g.ln⟩
theorem GoodQ.kb (g : GoodQ b l H pg as rows) (B : BoxAt H b l) (x : KB b l H H') : GoodQ b l H' pg as rows := ⟨g.hd.kb x, fun i q r e1 e2 => tup_kb B x (g.pr i q r e1 e2), g.ln⟩
theorem GoodQ.page (g : GoodQ b l H pg as rows) : PageAt K H pg as rows := ⟨SqL.of g.hd.1, g.ln, fun i q r e1 e2 => SqT.of (g.pr i q r e1 e2)⟩
theorem GoodQ.p (g : GoodQ b l H pg as rows) (hO : PgOk rows) : GoodP K H (.ref pg) := ⟨pg, as, rows, rfl, g.page, hO⟩
end
/-! ### the law -/
abbrev qS : Str := ("law" : Str) ++ ".<locals>." ++ "<lambda>"
abbrev frL : List Str := ["_law_bad", "_law_good", "_law_wrong"]
theorem sub_l1 : ∀ y ∈ fr_l1, y ∈ frL := by decide +kernel
theorem sub_l2 : ∀ y ∈ fr_l2, y ∈ frL := by decide +kernel
theorem sub_l3 : ∀ y ∈ fr_l3, y ∈ frL := by decide +kernel
theorem sub_l4 : ∀ y ∈ fr_l4, y ∈ frL := by decide +kernel
theorem sub_l5 : ∀ y ∈ fr_l5, y ∈ frL := by decide +kernel
abbrev nmLaw : List Str := ["_law_script", "_law_box", "_law_turn", "_law_row_here", "_law_works", "_law_far", "_law_gap", "_law_least", "_law_odd", "_law_style_here", "_law_full", "_law_bad", "_law_good", "_law_wrong"]
theorem sc_law : FnScope nmLaw ["_law_script"] (defScope s_law) := ⟨rfl, rfl, rfl, by decide +kernel, rfl, by decide +kernel, by decide +kernel⟩
theorem kc_law : ∀ y ∈ frL, (defScope s_law).names.lookup y = some .cell := by decide +kernel
def spLaw (K : PySem.W.Frag) (cs : List (Addr × Addr)) (p1 p2 : Addr) : Sp := fun vs H Q _ => ∃ (a : Addr) (ns : List Int), vs = [.ref a] ∧ Tabs cs H ∧ LamX.TabS H p1 qD ∧ LamX.TabS H p2 qS ∧ SqL K H a (ns.map V.int) ∧ ns.length ≤ 63 ∧ ∀ H', Q (.bl true) H'
theorem tbs2 {cs : List (Addr × Addr)} {p1 p2 : Addr} {q1 q2 : Str} (a1 : TG.Apart cs p1) (a2 : TG.Apart cs p2) (n12 : p1 ≠ p2) : Tbs cs [(p1, q1), (p2, q2)] := by
  refine ⟨fun p hp => ?_, fun p hp p' hp' e => ?_⟩
  · simp only [List.mem_cons, List.not_mem_nil, or_false] at hp
    rcases hp with z | z <;> rw [z] <;> assumption
  · simp only [List.mem_cons, List.not_mem_nil, or_false] at hp hp'
    rcases hp with z | z <;> rcases hp' with z' | z' <;> rw [z, z'] at e ⊢ <;> first | rfl | exact absurd e ‹_› | exact absurd e.symm ‹_›
section
variable {P : Program} {w : World} {K : PySem.W.Frag} {mg : Str → Option Value} {base : Heap} {cs : List (Addr × Addr)} {p p1 : Addr} {tbs : List (Addr × Str)}
theorem ok_law {f cd g1 g2 g4 gQ gD gA gL gW ggap_within groute : Addr} {fd fd1 fd2 fd4 fdQ fdD fdA fdL fdW fdgap_within fdroute : FuncData} (T : Txt mg) (hts : tbs = [(p1, qD), (p, qS)]) (ne : Tbs cs tbs) (F : Fun K "law" "law" s_law f fd) (hcode : fd.code = .ref cd) (TB : LamX.TabB base mg cd p)
    (G1 : FnOk P w K mg base CX0 1 g1 fd1 ["_law_script"] (spBegun K)) (k1 : PySem.W.keepIn K (.ref g1) = true) (b1 : Binds K fd1 ["_law_script"] []) (m1 : mg "_law_begun" = some (.ref g1))
    (G2 : FnOk P w K mg base CX0 1 g2 fd2 ["_law_box", "_law_many"] spTakeW) (k2 : PySem.W.keepIn K (.ref g2) = true) (b2 : Binds K fd2 ["_law_box", "_law_many"] []) (m2 : mg "_law_take" = some (.ref g2))
    (G4 : FnOk P w K mg base CX0 5 g4 fd4 ["_law_box", "_law_most"] spPageD) (k4 : PySem.W.keepIn K (.ref g4) = true) (b4 : Binds K fd4 ["_law_box", "_law_most"] []) (m4 : mg "_law_page" = some (.ref g4))
    (GQ : FnOk P w K mg base CX0 6 gQ fdQ ["_law_box"] (spBadPg K)) (kQ : PySem.W.keepIn K (.ref gQ) = true) (bQ : Binds K fdQ ["_law_box"] []) (mQ : mg "_law_bad_page" = some (.ref gQ))
    (GD : FnOk P w K mg base CX0 1 gD fdD ["_law_page_here", "_law_style_here"] (spDoors P w K mg base cs tbs)) (kD : PySem.W.keepIn K (.ref gD) = true) (bD : Binds K fdD ["_law_page_here", "_law_style_here"] []) (mD : mg "_law_doors" = some (.ref gD))
    (GA : FnOk P w K mg base CX0 20 gA fdA ["_law_works", "_law_due"] (spAllW P w K mg base cs 18)) (kA : PySem.W.keepIn K (.ref gA) = true) (bA : Binds K fdA ["_law_works", "_law_due"] []) (mA : mg "_law_all" = some (.ref gA))
    (GL : FnOk P w K mg base CX0 14 gL fdL ["page", "style"] (spTold K cs begsR)) (kL : PySem.W.keepIn K (.ref gL) = true) (bL : Binds K fdL ["page", "style"] []) (mL : mg "laid" = some (.ref gL))
    (GW : FnOk P w K mg base CX0 12 gW fdW ["page"] (spWrit K cs)) (GWX : FnOk P w K mg base (L2.CX P w) 17 gW fdW ["page"] (spWritX K cs)) (kW : PySem.W.keepIn K (.ref gW) = true) (bW : Binds K fdW ["page"] []) (mW : mg "written" = some (.ref gW))
    (Ggap_within : FnOk P w K mg base (L2.CX P w) 17 ggap_within fdgap_within ["page", "least", "most"] (spGapD K cs)) (kgap_within : PySem.W.keepIn K (.ref ggap_within) = true) (bgap_within : Binds K fdgap_within ["page", "least", "most"] []) (mgap_within : mg "gap_within" = some (.ref ggap_within))
    (Groute : FnOk P w K mg base (L2.CX P w) 17 groute fdroute ["page", "other"] (spRouteD K cs)) (kroute : PySem.W.keepIn K (.ref groute) = true) (broute : Binds K fdroute ["page", "other"] []) (mroute : mg "route" = some (.ref groute)) :
    FnOk P w K mg base CX0 22 f fd ["_law_script"] (spLaw K cs p1 p) := by
  refine fun_okT F hcode sc_law (fun vs H Q E h => ?_) (fun A outer s H vs Q E hr h => ?_)
  · obtain ⟨a, ns, rfl, _⟩ := h
    rfl
  · obtain ⟨sc, ns, rfl, hT, t1, t2, hS, hl, k⟩ := h
    have hTb : ∀ p ∈ tbs, LamX.TabS H p.1 p.2 := by
      rw [hts]
      intro q hq
      simp only [List.mem_cons, List.not_mem_nil, or_false] at hq
      rcases hq with e | e <;> rw [e] <;> assumption
    have hq : (p, qS) ∈ tbs := by
      rw [hts]
      simp only [List.mem_cons, true_or, or_true]
    clear t1 t2
    have nd := sc_law.nd
    have hu := hr.units
    have szl : (9000 : Nat) < sizeLine := by decide
    have r1 : Room 1 _ := hr.mono (by decide)
    have r5 : Room 5 _ := hr.mono (by decide)
    have r6 : Room 6 _ := hr.mono (by decide)
    have r12 : Room 12 _ := hr.mono (by decide)
    have r14 : Room 14 _ := hr.mono (by decide)
    have r20 : Room 20 _ := hr.mono (by decide)
    refine ⟨_, (pss_cons (ps_set (i := 1) nd rfl (.inl rfl) (pe_call G1 r1 (by rfl) m1 k1 b1 .nil pass0 (pa_cons (pv 0) pa_nil)))
      (pss_cons (ps_for PassesOwn.never rfl (pi_range1 (by rfl) T.range (pa_cons pe_int pa_nil)) (pg_name (i := 2) nd rfl (.inl rfl))
      (pss_cons (ps_asg (pe_call GQ r6 (by rfl) mQ kQ bQ .nil pass0 (pa_cons (pv 1) pa_nil)) (pg_tup rfl (pgs_cons (pg_name (i := 11) nd rfl (.inr rfl)) (pgs_cons (pg_name (i := 3) nd rfl (.inl rfl)) pgs_nil))))
      (pss_cons (ps_set (i := 12) nd rfl (.inr rfl) (pe_call G4 r5 (by rfl) m4 k4 b4 .nil pass0 (pa_cons (pv 1) (pa_cons pe_int pa_nil))))
      (pss_cons (ps_set (i := 4) nd rfl (.inl rfl) (pe_op op_cat (pe_call GD r1 (by rfl) mD kD bD .nil pass0 (pa_cons (pv 11) (pa_cons pe_non pa_nil))) (pe_lst (pa_cons (pe_lamC TB rfl rfl fun y hy e => .inl (kl_l1 y hy e)) (pa_cons (pe_lamD (v := .int 0) TB rfl rfl rfl rfl pe_int (fun y hy e => .inl (kl_l2 y hy e)) ⟨("_law_bad", .free), by decide +kernel, rfl⟩) pa_nil)))))
      (pss_cons (ps_set (i := 4) nd rfl (.inl rfl) (pe_op op_cat (pv 4) (pe_lst (pa_cons (pe_lamD (v := .int 0) TB rfl rfl rfl rfl pe_int (fun y hy e => .inl (kl_l3 y hy e)) ⟨("_law_bad", .free), by decide +kernel, rfl⟩) (pa_cons (pe_lamD (v := .int 0) TB rfl rfl rfl rfl pe_int (fun y hy e => .inl (kl_l4 y hy e)) ⟨("_law_good", .free), by decide +kernel, rfl⟩) pa_nil)))))
      (pss_cons (ps_if (pt_not (pt_val (pe_callC (names := frL) GA r20 (by rfl) mA kA bA (fun _ _ => rfl) kc_law (pa_cons (pv 4) (pa_cons (pe_tup (pa_cons pe_str (pa_cons (pv 3) pa_nil))) pa_nil))))) (pss_one (ps_ret pe_bl)) pss_nil)
      (pss_cons (ps_set (i := 5) nd rfl (.inl rfl) (pe_call G2 r1 (by rfl) m2 k2 b2 .nil pass0 (pa_cons (pv 1) (pa_cons (pe_op op_pow pe_int pe_int) pa_nil))))
      (pss_cons (ps_par (i := 6) (j := 7) rfl nd rfl rfl (by decide) rfl rfl (pa_cons (pe_call G2 r1 (by rfl) m2 k2 b2 .nil pass0 (pa_cons (pv 1) (pa_cons pe_int pa_nil))) (pa_cons (pe_call G2 r1 (by rfl) m2 k2 b2 .nil pass0 (pa_cons (pv 1) (pa_cons pe_int pa_nil))) pa_nil)) (by rfl))
      (pss_cons (ps_set (i := 8) nd rfl (.inl rfl) (pe_lst (pa_cons (pe_tup (pa_cons (pe_op op_add pe_int (pv 5)) (pa_cons (pv 7) pa_nil))) (pa_cons (pe_tup (pa_cons (pv 6) (pa_cons (pe_op op_add pe_int (pv 5)) pa_nil))) (pa_cons (pe_tup (pa_cons (pe_op op_sub (pe_un un_neg pe_int) (pv 5)) (pa_cons (pv 7) pa_nil))) (pa_cons (pe_tup (pa_cons (pv 6) (pa_cons (pe_op op_sub (pe_un un_neg pe_int) (pv 5)) pa_nil))) (pa_cons (pe_tup (pa_cons (pv 6) pa_nil)) (pa_cons (pe_tup (pa_cons (pv 6) (pa_cons (pv 7) (pa_cons pe_int pa_nil)))) pa_nil))))))))
      (pss_cons (ps_set (i := 8) nd rfl (.inl rfl) (pe_op op_cat (pv 8) (pe_lst (pa_cons (pe_lst (pa_cons (pv 6) (pa_cons (pv 7) pa_nil))) (pa_cons pe_non (pa_cons pe_int (pa_cons (pe_tup (pa_cons pe_bl (pa_cons (pv 7) pa_nil))) (pa_cons (pe_tup (pa_cons (pv 6) (pa_cons pe_non pa_nil))) (pa_cons (pe_tup (pa_cons pe_str (pa_cons (pv 7) pa_nil))) pa_nil)))))))))
      (pss_cons (ps_set (i := 9) nd rfl (.inl rfl) (pe_ix ix_list (pv 8) (pe_call G2 r1 (by rfl) m2 k2 b2 .nil pass0 (pa_cons (pv 1) (pa_cons pe_int pa_nil))) (fun _ _ => rfl)))
      (pss_cons (ps_if (pt_not (pt_val (pe_call GA r20 (by rfl) mA kA bA .nil pass0 (pa_cons (pe_call GD r1 (by rfl) mD kD bD .nil pass0 (pa_cons (pv 12) (pa_cons (pv 9) pa_nil))) (pa_cons (pe_tup (pa_cons pe_str (pa_cons pe_int pa_nil))) pa_nil))))) (pss_one (ps_ret pe_bl)) pss_nil)
      (pss_cons (ps_set (i := 13) nd rfl (.inr rfl) (pe_ix ix_list (pe_lst (pa_cons (pe_op op_add pe_int (pv 5)) (pa_cons (pe_op op_sub (pe_un un_neg pe_int) (pv 5)) (pa_cons pe_non (pa_cons pe_str (pa_cons pe_bl pa_nil)))))) (pe_call G2 r1 (by rfl) m2 k2 b2 .nil pass0 (pa_cons (pv 1) (pa_cons pe_int pa_nil))) (fun _ _ => rfl)))
      (pss_cons (ps_if (pt_not (pt_val (pe_callC (names := frL) GA r20 (by rfl) mA kA bA (fun _ _ => rfl) kc_law (pa_cons (pe_lst (pa_cons (pe_lamC TB rfl rfl fun y hy e => .inl (kl_l5 y hy e)) pa_nil)) (pa_cons (pe_tup (pa_cons pe_str (pa_cons pe_int pa_nil))) pa_nil))))) (pss_one (ps_ret pe_bl)) pss_nil)
      (pss_cons (ps_set (i := 10) nd rfl (.inl rfl) (pe_slice sl_list (pe_op op_rep (pv 12) pe_int) po_none (po_some pe_int)))
      (pss_one (ps_if (PW.pt (pw_or (pt_cmpR op_ne (pe_callB call_len_seq (by rfl) T.len PySem.boot_len (pa_cons (pe_call GL r14 (by rfl) mL kL bL .nil pass0 (pa_cons (pv 10) (pa_cons (pe_tup (pa_cons (pv 6) (pa_cons (pv 7) pa_nil))) pa_nil))) pa_nil)) pe_int (nomark _)) (pw_or1 (pt_not (pt_val (pe_callB call_isi (by rfl) T.isin (by decide +kernel) (pa_cons (pe_call GW r12 (by rfl) mW kW bW .nil pass0 (pa_cons (pv 10) pa_nil)) (pa_cons (pe_bltn (v := .ty "str") (by rfl) T.str (by decide +kernel) rfl) pa_nil)))))))) (pss_one (ps_ret pe_bl)) pss_nil)))))))))))))))))
      (pss_one (ps_ret pe_bl)))), ?_⟩
    refine ⟨_, rfl, sc, ns, rfl, hS, hl, fun b l H1 hB1 x1 nb nl => ⟨_, rfl, by decide, by decide, for_range (n := 4) (fun _ σ H' => ∃ (c2 c3 c4 c5 c6 c7 c8 c9 c10 c11 c12 c13 : Option V), σ = [some (.ref sc), some (.ref b), c2, c3, c4, c5, c6, c7, c8, c9, c10, c11, c12, c13] ∧ Sy cs b l tbs H')
      ⟨none, none, none, none, none, none, none, none, none, none, none, none, rfl, ⟨hB1, tabs_ext hT x1, fun p hp => (hTb p hp).ext x1⟩⟩ ?_ ?_⟩⟩
    rotate_left
    · rintro σ H' _
      exact k _
    clear hB1 x1 nb nl hT hTb hS hl
    rintro i σ H1 hi ⟨c2, c3, c4, c5, c6, c7, c8, c9, c10, c11, c12, c13, rfl, o⟩
    -- what is no page
    refine ⟨_, rfl, b, l, rfl, o.box, fun t v n0 H2 hB2 x2 ht hn0 hbad => ⟨t, _, rfl, .inl (.inl ht), rfl, _, _, rfl, _, _, rfl, rfl, ?_⟩⟩
    have o := o.draw x2 hB2
    refine ⟨_, rfl, b, l, 4, rfl, o.box, by decide, by decide, fun pg as rows H3 hB3 x3 np pb pl hp hal hrow hO => ?_⟩
    have o := o.draw x3 hB3
    have hb := hbad _ x3
    have hg : GoodQ b l H3 pg as rows := ⟨⟨hp, pb, pl⟩, fun i q r e1 e2 => hrow i q r e1 e2, hal⟩
    clear x2 x3 ht hbad hB2 hB3 np pb pl hp hrow
    refine ⟨_, rfl, b, l, v, .non, 0, ((n0 : Nat) : Int), rfl, o, .inl ⟨rfl, n0, rfl, hb⟩, fun w1 fs H4 o4 x4 hlen hw1 hR => ?_⟩
    have o := o4
    have hb := hb.gw x4
    have hg := hg.gw x4
    clear x4 o4
    have kx : KX b l H4 H4 := KX.refl
    refine ⟨o.tb _ hq, fun f_l1 d_l1 Hx1 k1 k2 t11 nf hf hc => ?_⟩
    obtain ⟨o, xx⟩ := o.lam ne hq k1 k2 t11
    have kx := kx.tr (kx_ext xx)
    have hb := hb.gw xx
    have hg := hg.gw xx
    have hR := hR.gw xx
    have hw1 := hw1.gw xx fun ps z => nomatch z
    have g_l1 : HfL f_l1 ⟨"<lambda>", qS, lm_l1.1, [], lm_l1.2.2, cloFrom (cxOf CX0 P w K mg base nmLaw "law" (defScope s_law) f (.ref cd) A outer s H E).nox.env.cells lm_l1.2.2.names [], d_l1⟩ lm_l1.2.1 _ := ⟨hf, hc⟩
    clear xx k1 k2 t11 nf hf hc
    refine ⟨o.tb _ hq, fun f_l2 d_l2 u_l2 Hx2 k1 k2 t11 nf hf => ?_⟩
    obtain ⟨o, xx⟩ := o.lam ne hq k1 k2 t11
    have kx := kx.tr (kx_ext xx)
    have hb := hb.gw xx
    have hg := hg.gw xx
    have hR := hR.gw xx
    have hw1 := hw1.gw xx fun ps z => nomatch z
    have g_l1 := HfLgw g_l1 xx
    have g_l2 : HfD f_l2 ⟨"<lambda>", qS, lm_l2.1, [], lm_l2.2.2, cloFrom (cxOf CX0 P w K mg base nmLaw "law" (defScope s_law) f (.ref cd) A outer s H E).nox.env.cells lm_l2.2.2.names [], d_l2⟩ lm_l2.2.1 u_l2 (.int 0) _ := hf
    clear xx k1 k2 t11 nf hf
    refine ⟨by show 2 ≤ sizeLine; decide, fun w2 nw2 => ?_⟩
    obtain ⟨o, hw2, xx⟩ := o.new (u := .lst [V.ref f_l1, V.ref f_l2]) ne nw2
    have kx := kx.tr (kx_ext xx)
    have hb := hb.gw xx
    have hg := hg.gw xx
    have hR := hR.gw xx
    have hw1 := hw1.gw xx fun ps z => nomatch z
    have g_l1 := HfLgw g_l1 xx
    have g_l2 := HfDgw g_l2 xx
    generalize upd Hx2 w2 (.lst [V.ref f_l1, V.ref f_l2]) = Hx3 at o kx hw2 hb hg hR hw1 g_l1 g_l2 ⊢
    clear xx nw2
    refine ⟨w1, w2, _, _, rfl, rfl, hw1.1, hw2.1, by rw [List.length_map, hlen]; show 12 ≤ sizeLine; omega, fun w3 nw3 => ?_⟩
    clear hw1 hw2
    obtain ⟨o, hw3, xx⟩ := o.new (u := .lst (fs.map V.ref ++ [V.ref f_l1, V.ref f_l2])) ne nw3
    have kx := kx.tr (kx_ext xx)
    have hb := hb.gw xx
    have hg := hg.gw xx
    have hR := hR.gw xx
    have g_l1 := HfLgw g_l1 xx
    have g_l2 := HfDgw g_l2 xx
    generalize upd Hx3 w3 (.lst (fs.map V.ref ++ [V.ref f_l1, V.ref f_l2])) = Hx4 at o kx hw3 hb hg hR g_l1 g_l2 ⊢
    clear xx nw3
    refine ⟨_, rfl, ?_⟩
    refine ⟨o.tb _ hq, fun f_l3 d_l3 u_l3 Hx5 k1 k2 t11 nf hf => ?_⟩
    obtain ⟨o, xx⟩ := o.lam ne hq k1 k2 t11
    have kx := kx.tr (kx_ext xx)
    have hb := hb.gw xx
    have hg := hg.gw xx
    have hR := hR.gw xx
    have g_l1 := HfLgw g_l1 xx
    have g_l2 := HfDgw g_l2 xx
    have hw3 := hw3.gw xx fun ps z => nomatch z
    have g_l3 : HfD f_l3 ⟨"<lambda>", qS, lm_l3.1, [], lm_l3.2.2, cloFrom (cxOf CX0 P w K mg base nmLaw "law" (defScope s_law) f (.ref cd) A outer s H E).nox.env.cells lm_l3.2.2.names [], d_l3⟩ lm_l3.2.1 u_l3 (.int 0) _ := hf
    clear xx k1 k2 t11 nf hf
    refine ⟨o.tb _ hq, fun f_l4 d_l4 u_l4 Hx6 k1 k2 t11 nf hf => ?_⟩
    obtain ⟨o, xx⟩ := o.lam ne hq k1 k2 t11
    have kx := kx.tr (kx_ext xx)
    have hb := hb.gw xx
    have hg := hg.gw xx
    have hR := hR.gw xx
    have g_l1 := HfLgw g_l1 xx
    have g_l2 := HfDgw g_l2 xx
    have hw3 := hw3.gw xx fun ps z => nomatch z
    have g_l3 := HfDgw g_l3 xx
    have g_l4 : HfD f_l4 ⟨"<lambda>", qS, lm_l4.1, [], lm_l4.2.2, cloFrom (cxOf CX0 P w K mg base nmLaw "law" (defScope s_law) f (.ref cd) A outer s H E).nox.env.cells lm_l4.2.2.names [], d_l4⟩ lm_l4.2.1 u_l4 (.int 0) _ := hf
    clear xx k1 k2 t11 nf hf
    refine ⟨by show 2 ≤ sizeLine; decide, fun w4 nw4 => ?_⟩
    obtain ⟨o, hw4, xx⟩ := o.new (u := .lst [V.ref f_l3, V.ref f_l4]) ne nw4
    have kx := kx.tr (kx_ext xx)
    have hb := hb.gw xx
    have hg := hg.gw xx
    have hR := hR.gw xx
    have g_l1 := HfLgw g_l1 xx
    have g_l2 := HfDgw g_l2 xx
    have hw3 := hw3.gw xx fun ps z => nomatch z
    have g_l3 := HfDgw g_l3 xx
    have g_l4 := HfDgw g_l4 xx
    generalize upd Hx6 w4 (.lst [V.ref f_l3, V.ref f_l4]) = Hx7 at o kx hw4 hb hg hR g_l1 g_l2 hw3 g_l3 g_l4 ⊢
    clear xx nw4
    refine ⟨w3, w4, _, _, rfl, rfl, hw3.1, hw4.1, by rw [List.length_append, List.length_map, hlen]; show 14 ≤ sizeLine; omega, fun w5 nw5 => ?_⟩
    clear hw3 hw4
    obtain ⟨o, hw5, xx⟩ := o.new (u := .lst ((fs.map V.ref ++ [V.ref f_l1, V.ref f_l2]) ++ [V.ref f_l3, V.ref f_l4])) ne nw5
    have kx := kx.tr (kx_ext xx)
    have hb := hb.gw xx
    have hg := hg.gw xx
    have hR := hR.gw xx
    have g_l1 := HfLgw g_l1 xx
    have g_l2 := HfDgw g_l2 xx
    have g_l3 := HfDgw g_l3 xx
    have g_l4 := HfDgw g_l4 xx
    generalize upd Hx7 w5 (.lst ((fs.map V.ref ++ [V.ref f_l1, V.ref f_l2]) ++ [V.ref f_l3, V.ref f_l4])) = Hx8 at o kx hw5 hb hg hR g_l1 g_l2 g_l3 g_l4 ⊢
    clear xx nw5
    refine ⟨_, rfl, _, rfl, by show 2 ≤ sizeLine; decide, fun dd ndd cl Tc un => ?_⟩
    obtain ⟨o, hdd, xx⟩ := o.new (u := .tup [V.str "BadPage", V.int ((n0 : Nat) : Int)]) ne ndd
    have kx := kx.tr (kx_ext xx)
    have hb := hb.gw xx
    have hg := hg.gw xx
    have hR := hR.gw xx
    have g_l1 := HfLgw g_l1 xx
    have g_l2 := HfDgw g_l2 xx
    have g_l3 := HfDgw g_l3 xx
    have g_l4 := HfDgw g_l4 xx
    have hw5 := hw5.gw xx fun ps z => nomatch z
    generalize upd Hx8 dd (.tup [V.str "BadPage", V.int ((n0 : Nat) : Int)]) = HZ at o kx hdd un hb hg hR g_l1 g_l2 g_l3 g_l4 hw5 ⊢
    clear xx ndd
    have e5 : fs.map V.ref ++ [V.ref f_l1, V.ref f_l2] ++ [V.ref f_l3, V.ref f_l4] = (fs ++ [f_l1, f_l2, f_l3, f_l4]).map V.ref := by simp
    refine ⟨w5, dd, fs ++ [f_l1, f_l2, f_l3, f_l4], 0, ((n0 : Nat) : Int), rfl, tabs_addC o.tab un, by rw [← e5]; exact add_at un hw5.1, add_at un hdd.1, fun f hf => ?_, fun H' x told => ⟨true, rfl, iteF ?_⟩⟩
    · rcases List.mem_append.mp hf with hf | hf
      · exact ((hR f hf).gw fun c u h _ => same_add un c u h).ref
      simp only [List.mem_cons, List.not_mem_nil, or_false] at hf
      rcases hf with e | e | e | e <;> rw [e]
      · refine TGK.ref_of (ws := [some v]) sc_l1 (fun y hy => sc_l1.free (y, .free) hy rfl) (sub_l1) Tc un rfl rfl (fun i y v q1 q2 => by
          match i, q1, q2 with
          | 0, q1, q2 => cases q1; cases q2; exact ⟨11, rfl, rfl⟩
          | i + 1, q1, _ => simp at q1) (fun H1 x => ⟨x.ext _ _ (add_at un g_l1.1) fnL_ne, x.ext _ _ (add_at un g_l1.2) LamX.codeO_ne⟩) (lok_l1 GWX kW bW mW) (fun H1 x1 _ Z E2 hE => ?_)
        exact ⟨v, rfl, v, n0, rfl, x1.tab, hb.gw x1.ext, hE⟩
      · refine TGK.ref_of (ws := [some v]) sc_l2 (fun y hy => sc_l2.free (y, .free) hy rfl) (sub_l2) Tc un rfl rfl (fun i y v q1 q2 => by
          match i, q1, q2 with
          | 0, q1, q2 => cases q1; cases q2; exact ⟨11, rfl, rfl⟩
          | i + 1, q1, _ => simp at q1) (fun H1 x => ⟨x.ext _ _ (add_at un g_l2.1) fnD_ne, x.ext _ _ (add_at un g_l2.2.1) LamX.codeO_ne, x.tup (add_at un g_l2.2.2)⟩) (lok_l2 Ggap_within kgap_within bgap_within mgap_within) (fun H1 x1 _ Z E2 hE => ?_)
        exact ⟨v, rfl, v, _, _, rfl, x1.tab, 0, _, .inl ⟨rfl, n0, rfl, hb.gw x1.ext⟩, hE⟩
      · refine TGK.ref_of (ws := [some v]) sc_l3 (fun y hy => sc_l3.free (y, .free) hy rfl) (sub_l3) Tc un rfl rfl (fun i y v q1 q2 => by
          match i, q1, q2 with
          | 0, q1, q2 => cases q1; cases q2; exact ⟨11, rfl, rfl⟩
          | i + 1, q1, _ => simp at q1) (fun H1 x => ⟨x.ext _ _ (add_at un g_l3.1) fnD_ne, x.ext _ _ (add_at un g_l3.2.1) LamX.codeO_ne, x.tup (add_at un g_l3.2.2)⟩) (lok_l3 Groute kroute broute mroute) (fun H1 x1 _ Z E2 hE => ?_)
        exact ⟨v, rfl, fun e ne_ => ⟨v, _, rfl, (Ex.laid x1.tab ne_).tab, n0, .inl ((hb.gw x1.ext).gw (Ex.laid x1.tab ne_).ext), fun cls d H2 he x2 => hE cls d H2 he ((Ex.laid x1.tab ne_).trans x2)⟩⟩
      · refine TGK.ref_of (ws := [some (.ref pg), some v]) sc_l4 (fun y hy => sc_l4.free (y, .free) hy rfl) (sub_l4) Tc un rfl rfl (fun i y v q1 q2 => by
          match i, q1, q2 with
          | 0, q1, q2 => cases q1; cases q2; exact ⟨12, rfl, rfl⟩
          | 1, q1, q2 => cases q1; cases q2; exact ⟨11, rfl, rfl⟩
          | i + 2, q1, _ => simp at q1) (fun H1 x => ⟨x.ext _ _ (add_at un g_l4.1) fnD_ne, x.ext _ _ (add_at un g_l4.2.1) LamX.codeO_ne, x.tup (add_at un g_l4.2.2)⟩) (lok_l4 Groute kroute broute mroute) (fun H1 x1 _ Z E2 hE => ?_)
        exact ⟨_, v, rfl, _, v, rfl, x1.tab, n0, .inr ⟨(hg.gw x1.ext).p hO, hb.gw x1.ext⟩, hE⟩
    have x2 := ex_del un x
    have o := o.ex ne x2
    have hg := hg.gw x2.ext
    clear kx un Tc told hb g_l1 g_l2 g_l3 g_l4 hw5 hdd hR e5 x
    generalize delC H' cl = H5 at o hg x2 ⊢
    clear x2
    -- what is no style
    refine ⟨_, rfl, 10, 18, rfl, rfl, ⟨by decide, by decide, by decide⟩, b, l, _, rfl, o.box, by decide, by decide, fun fr H6 fr0 fr1 hB6 x6 => ?_⟩
    have hg := hg.kb o.box x6
    have o := o.draw x6 hB6
    refine ⟨_, rfl, b, l, 5, rfl, o.box, by decide, by decide, fun g H7 g0 g1 hB7 x7 => ?_⟩
    have hg := hg.kb o.box x7
    have o := o.draw x7 hB7
    refine ⟨_, rfl, b, l, 13, rfl, o.box, by decide, by decide, fun le H8 le0 le1 hB8 x8 => ⟨_, _, rfl, ?_⟩⟩
    have hg := hg.kb o.box x8
    have o := o.draw x8 hB8
    clear x6 x7 x8 hB6 hB7 hB8
    have kx : KX b l H8 H8 := KX.refl
    refine ⟨_, rfl, _, _, rfl, rfl, _, rfl, by show 2 ≤ sizeLine; decide, fun t1 nt1 => ?_⟩
    obtain ⟨o, ht1, xx⟩ := o.new (u := .tup [V.int (5 + fr), V.int le]) ne nt1
    have kx := kx.tr (kx_ext xx)
    have hg := hg.gw xx
    generalize upd H8 t1 (.tup [V.int (5 + fr), V.int le]) = Hx1 at o kx ht1 hg ⊢
    clear xx nt1
    refine ⟨_, rfl, _, rfl, _, _, rfl, rfl, by show 2 ≤ sizeLine; decide, fun t2 nt2 => ?_⟩
    obtain ⟨o, ht2, xx⟩ := o.new (u := .tup [V.int g, V.int (13 + fr)]) ne nt2
    have kx := kx.tr (kx_ext xx)
    have hg := hg.gw xx
    have ht1 := ht1.gw xx fun ps z => nomatch z
    generalize upd Hx1 t2 (.tup [V.int g, V.int (13 + fr)]) = Hx2 at o kx ht2 hg ht1 ⊢
    clear xx nt2
    refine ⟨1, rfl, _, rfl, _, _, rfl, rfl, _, rfl, by show 2 ≤ sizeLine; decide, fun t3 nt3 => ?_⟩
    obtain ⟨o, ht3, xx⟩ := o.new (u := .tup [V.int (-1 - fr), V.int le]) ne nt3
    have kx := kx.tr (kx_ext xx)
    have hg := hg.gw xx
    have ht1 := ht1.gw xx fun ps z => nomatch z
    have ht2 := ht2.gw xx fun ps z => nomatch z
    generalize upd Hx2 t3 (.tup [V.int (-1 - fr), V.int le]) = Hx3 at o kx ht3 hg ht1 ht2 ⊢
    clear xx nt3
    refine ⟨_, rfl, 1, rfl, _, rfl, _, _, rfl, rfl, by show 2 ≤ sizeLine; decide, fun t4 nt4 => ?_⟩
    obtain ⟨o, ht4, xx⟩ := o.new (u := .tup [V.int g, V.int (-1 - fr)]) ne nt4
    have kx := kx.tr (kx_ext xx)
    have hg := hg.gw xx
    have ht1 := ht1.gw xx fun ps z => nomatch z
    have ht2 := ht2.gw xx fun ps z => nomatch z
    have ht3 := ht3.gw xx fun ps z => nomatch z
    generalize upd Hx3 t4 (.tup [V.int g, V.int (-1 - fr)]) = Hx4 at o kx ht4 hg ht1 ht2 ht3 ⊢
    clear xx nt4
    refine ⟨_, rfl, by show 1 ≤ sizeLine; decide, fun t5 nt5 => ?_⟩
    obtain ⟨o, ht5, xx⟩ := o.new (u := .tup [V.int g]) ne nt5
    have kx := kx.tr (kx_ext xx)
    have hg := hg.gw xx
    have ht1 := ht1.gw xx fun ps z => nomatch z
    have ht2 := ht2.gw xx fun ps z => nomatch z
    have ht3 := ht3.gw xx fun ps z => nomatch z
    have ht4 := ht4.gw xx fun ps z => nomatch z
    generalize upd Hx4 t5 (.tup [V.int g]) = Hx5 at o kx ht5 hg ht1 ht2 ht3 ht4 ⊢
    clear xx nt5
    refine ⟨_, rfl, _, rfl, by show 3 ≤ sizeLine; decide, fun t6 nt6 => ?_⟩
    obtain ⟨o, ht6, xx⟩ := o.new (u := .tup [V.int g, V.int le, V.int 0]) ne nt6
    have kx := kx.tr (kx_ext xx)
    have hg := hg.gw xx
    have ht1 := ht1.gw xx fun ps z => nomatch z
    have ht2 := ht2.gw xx fun ps z => nomatch z
    have ht3 := ht3.gw xx fun ps z => nomatch z
    have ht4 := ht4.gw xx fun ps z => nomatch z
    have ht5 := ht5.gw xx fun ps z => nomatch z
    generalize upd Hx5 t6 (.tup [V.int g, V.int le, V.int 0]) = Hx6 at o kx ht6 hg ht1 ht2 ht3 ht4 ht5 ⊢
    clear xx nt6
    refine ⟨by show 6 ≤ sizeLine; decide, fun q1 nq1 => ?_⟩
    obtain ⟨o, hq1, xx⟩ := o.new (u := .lst [V.ref t1, V.ref t2, V.ref t3, V.ref t4, V.ref t5, V.ref t6]) ne nq1
    have kx := kx.tr (kx_ext xx)
    have hg := hg.gw xx
    have ht1 := ht1.gw xx fun ps z => nomatch z
    have ht2 := ht2.gw xx fun ps z => nomatch z
    have ht3 := ht3.gw xx fun ps z => nomatch z
    have ht4 := ht4.gw xx fun ps z => nomatch z
    have ht5 := ht5.gw xx fun ps z => nomatch z
    have ht6 := ht6.gw xx fun ps z => nomatch z
    generalize upd Hx6 q1 (.lst [V.ref t1, V.ref t2, V.ref t3, V.ref t4, V.ref t5, V.ref t6]) = Hx7 at o kx hq1 hg ht1 ht2 ht3 ht4 ht5 ht6 ⊢
    clear xx nq1
    refine ⟨_, rfl, _, rfl, _, rfl, by show 2 ≤ sizeLine; decide, fun t7 nt7 => ?_⟩
    obtain ⟨o, ht7, xx⟩ := o.new (u := .lst [V.int g, V.int le]) ne nt7
    have kx := kx.tr (kx_ext xx)
    have hg := hg.gw xx
    have ht1 := ht1.gw xx fun ps z => nomatch z
    have ht2 := ht2.gw xx fun ps z => nomatch z
    have ht3 := ht3.gw xx fun ps z => nomatch z
    have ht4 := ht4.gw xx fun ps z => nomatch z
    have ht5 := ht5.gw xx fun ps z => nomatch z
    have ht6 := ht6.gw xx fun ps z => nomatch z
    have hq1 := hq1.gw xx fun ps z => nomatch z
    generalize upd Hx7 t7 (.lst [V.int g, V.int le]) = Hx8 at o kx ht7 hg ht1 ht2 ht3 ht4 ht5 ht6 hq1 ⊢
    clear xx nt7
    refine ⟨_, rfl, by show 2 ≤ sizeLine; decide, fun t8 nt8 => ?_⟩
    obtain ⟨o, ht8, xx⟩ := o.new (u := .tup [V.bl true, V.int le]) ne nt8
    have kx := kx.tr (kx_ext xx)
    have hg := hg.gw xx
    have ht1 := ht1.gw xx fun ps z => nomatch z
    have ht2 := ht2.gw xx fun ps z => nomatch z
    have ht3 := ht3.gw xx fun ps z => nomatch z
    have ht4 := ht4.gw xx fun ps z => nomatch z
    have ht5 := ht5.gw xx fun ps z => nomatch z
    have ht6 := ht6.gw xx fun ps z => nomatch z
    have hq1 := hq1.gw xx fun ps z => nomatch z
    have ht7 := ht7.gw xx fun ps z => nomatch z
    generalize upd Hx8 t8 (.tup [V.bl true, V.int le]) = Hx9 at o kx ht8 hg ht1 ht2 ht3 ht4 ht5 ht6 hq1 ht7 ⊢
    clear xx nt8
    refine ⟨_, rfl, by show 2 ≤ sizeLine; decide, fun t9 nt9 => ?_⟩
    obtain ⟨o, ht9, xx⟩ := o.new (u := .tup [V.int g, V.non]) ne nt9
    have kx := kx.tr (kx_ext xx)
    have hg := hg.gw xx
    have ht1 := ht1.gw xx fun ps z => nomatch z
    have ht2 := ht2.gw xx fun ps z => nomatch z
    have ht3 := ht3.gw xx fun ps z => nomatch z
    have ht4 := ht4.gw xx fun ps z => nomatch z
    have ht5 := ht5.gw xx fun ps z => nomatch z
    have ht6 := ht6.gw xx fun ps z => nomatch z
    have hq1 := hq1.gw xx fun ps z => nomatch z
    have ht7 := ht7.gw xx fun ps z => nomatch z
    have ht8 := ht8.gw xx fun ps z => nomatch z
    generalize upd Hx9 t9 (.tup [V.int g, V.non]) = Hx10 at o kx ht9 hg ht1 ht2 ht3 ht4 ht5 ht6 hq1 ht7 ht8 ⊢
    clear xx nt9
    refine ⟨_, rfl, by show 2 ≤ sizeLine; decide, fun t10 nt10 => ?_⟩
    obtain ⟨o, ht10, xx⟩ := o.new (u := .tup [V.str "1", V.int le]) ne nt10
    have kx := kx.tr (kx_ext xx)
    have hg := hg.gw xx
    have ht1 := ht1.gw xx fun ps z => nomatch z
    have ht2 := ht2.gw xx fun ps z => nomatch z
    have ht3 := ht3.gw xx fun ps z => nomatch z
    have ht4 := ht4.gw xx fun ps z => nomatch z
    have ht5 := ht5.gw xx fun ps z => nomatch z
    have ht6 := ht6.gw xx fun ps z => nomatch z
    have hq1 := hq1.gw xx fun ps z => nomatch z
    have ht7 := ht7.gw xx fun ps z => nomatch z
    have ht8 := ht8.gw xx fun ps z => nomatch z
    have ht9 := ht9.gw xx fun ps z => nomatch z
    generalize upd Hx10 t10 (.tup [V.str "1", V.int le]) = Hx11 at o kx ht10 hg ht1 ht2 ht3 ht4 ht5 ht6 hq1 ht7 ht8 ht9 ⊢
    clear xx nt10
    refine ⟨by show 6 ≤ sizeLine; decide, fun q2 nq2 => ?_⟩
    obtain ⟨o, hq2, xx⟩ := o.new (u := .lst [V.ref t7, V.non, V.int 5, V.ref t8, V.ref t9, V.ref t10]) ne nq2
    have kx := kx.tr (kx_ext xx)
    have hg := hg.gw xx
    have ht1 := ht1.gw xx fun ps z => nomatch z
    have ht2 := ht2.gw xx fun ps z => nomatch z
    have ht3 := ht3.gw xx fun ps z => nomatch z
    have ht4 := ht4.gw xx fun ps z => nomatch z
    have ht5 := ht5.gw xx fun ps z => nomatch z
    have ht6 := ht6.gw xx fun ps z => nomatch z
    have hq1 := hq1.gw xx fun ps z => nomatch z
    have ht7 := ht7.gw xx fun ps z => nomatch z
    have ht8 := ht8.gw xx fun ps z => nomatch z
    have ht9 := ht9.gw xx fun ps z => nomatch z
    have ht10 := ht10.gw xx fun ps z => nomatch z
    generalize upd Hx11 q2 (.lst [V.ref t7, V.non, V.int 5, V.ref t8, V.ref t9, V.ref t10]) = Hx12 at o kx hq2 hg ht1 ht2 ht3 ht4 ht5 ht6 hq1 ht7 ht8 ht9 ht10 ⊢
    clear xx nq2
    refine ⟨q1, q2, _, _, rfl, rfl, hq1.1, hq2.1, by show 12 ≤ sizeLine; omega, fun q3 nq3 => ?_⟩
    clear hq1 hq2
    obtain ⟨o, hq3, xx⟩ := o.new (u := .lst ([V.ref t1, V.ref t2, V.ref t3, V.ref t4, V.ref t5, V.ref t6] ++ [V.ref t7, V.non, V.int 5, V.ref t8, V.ref t9, V.ref t10])) ne nq3
    have kx := kx.tr (kx_ext xx)
    have hg := hg.gw xx
    have ht1 := ht1.gw xx fun ps z => nomatch z
    have ht2 := ht2.gw xx fun ps z => nomatch z
    have ht3 := ht3.gw xx fun ps z => nomatch z
    have ht4 := ht4.gw xx fun ps z => nomatch z
    have ht5 := ht5.gw xx fun ps z => nomatch z
    have ht6 := ht6.gw xx fun ps z => nomatch z
    have ht7 := ht7.gw xx fun ps z => nomatch z
    have ht8 := ht8.gw xx fun ps z => nomatch z
    have ht9 := ht9.gw xx fun ps z => nomatch z
    have ht10 := ht10.gw xx fun ps z => nomatch z
    generalize upd Hx12 q3 (.lst ([V.ref t1, V.ref t2, V.ref t3, V.ref t4, V.ref t5, V.ref t6] ++ [V.ref t7, V.non, V.int 5, V.ref t8, V.ref t9, V.ref t10])) = Hx13 at o kx hq3 hg ht1 ht2 ht3 ht4 ht5 ht6 ht7 ht8 ht9 ht10 ⊢
    clear xx nq3
    refine ⟨_, rfl, _, rfl, b, l, 12, rfl, o.box, by decide, by decide, fun z H9 z0 z1 hB9 x9 => ?_⟩
    have kx := kx.tr (kx_kb x9)
    have hg := hg.kb o.box x9
    have ht1 := ht1.kb x9
    have ht2 := ht2.kb x9
    have ht3 := ht3.kb x9
    have ht4 := ht4.kb x9
    have ht5 := ht5.kb x9
    have ht6 := ht6.kb x9
    have ht7 := ht7.kb x9
    have ht8 := ht8.kb x9
    have ht9 := ht9.kb x9
    have ht10 := ht10.kb x9
    have hq3 := hq3.kb x9
    have o := o.draw x9 hB9
    clear x9 hB9
    obtain ⟨sv, hsv, esv⟩ := pick (xs := ([V.ref t1, V.ref t2, V.ref t3, V.ref t4, V.ref t5, V.ref t6, V.ref t7, V.non, V.int 5, V.ref t8, V.ref t9, V.ref t10] : List V)) (i := z) z0 z1
    refine ⟨q3, _, _, sv, rfl, rfl, SqL.of hq3.1, esv, ?_⟩
    have hbs : BadSt H9 sv := by
      simp only [List.mem_cons, List.not_mem_nil, or_false] at hsv
      rcases hsv with rfl | rfl | rfl | rfl | rfl | rfl | rfl | rfl | rfl | rfl | rfl | rfl
      · exact .inr (.inr (.inr ⟨t1, _, rfl, ht1.1, .inr ⟨_, _, rfl, .inl (.inl ⟨_, rfl, by omega⟩)⟩⟩))
      · exact .inr (.inr (.inr ⟨t2, _, rfl, ht2.1, .inr ⟨_, _, rfl, .inr ⟨⟨g, rfl, by omega, by omega⟩, .inl ⟨_, rfl, by omega⟩⟩⟩⟩))
      · exact .inr (.inr (.inr ⟨t3, _, rfl, ht3.1, .inr ⟨_, _, rfl, .inl (.inl ⟨_, rfl, by omega⟩)⟩⟩))
      · exact .inr (.inr (.inr ⟨t4, _, rfl, ht4.1, .inr ⟨_, _, rfl, .inr ⟨⟨g, rfl, by omega, by omega⟩, .inl ⟨_, rfl, by omega⟩⟩⟩⟩))
      · exact .inr (.inr (.inr ⟨t5, _, rfl, ht5.1, .inl ⟨by show (1 : Nat) ≠ 2; decide, by show (1 : Nat) ≤ 1000; decide⟩⟩))
      · exact .inr (.inr (.inr ⟨t6, _, rfl, ht6.1, .inl ⟨by show (3 : Nat) ≠ 2; decide, by show (3 : Nat) ≤ 1000; decide⟩⟩))
      · exact .inr (.inr (.inl ⟨t7, _, rfl, ht7.1⟩))
      · exact .inl rfl
      · exact .inr (.inl ⟨_, rfl⟩)
      · exact .inr (.inr (.inr ⟨t8, _, rfl, ht8.1, .inr ⟨_, _, rfl, .inl (.inr (.inr (.inl ⟨_, rfl⟩)))⟩⟩))
      · exact .inr (.inr (.inr ⟨t9, _, rfl, ht9.1, .inr ⟨_, _, rfl, .inr ⟨⟨g, rfl, by omega, by omega⟩, .inr (.inl rfl)⟩⟩⟩))
      · exact .inr (.inr (.inr ⟨t10, _, rfl, ht10.1, .inr ⟨_, _, rfl, .inl (.inr (.inr (.inr ⟨_, rfl⟩)))⟩⟩))
    clear ht1 ht2 ht3 ht4 ht5 ht6 ht7 ht8 ht9 ht10 hq3 esv hsv z0 z1 kx
    refine ⟨_, rfl, _, rfl, b, l, .ref pg, sv, 1, 0, rfl, o, .inr ⟨rfl, rfl, hg.p hO, hbs⟩, fun w6 fs2 H10 o10 x10 hlen2 hw6 hR2 => ?_⟩
    refine ⟨by show 2 ≤ sizeLine; decide, fun dd2 ndd2 => ?_⟩
    have xd := Ex.laid (o := .tup [V.str "BadStyle", V.int 0]) o10.tab ndd2
    refine ⟨w6, dd2, fs2, 1, 0, rfl, xd.tab, xd.lst hw6.1, upd_same, fun f hf => ((hR2 f hf).gw xd.ext).ref, fun H11 x11 => ⟨true, rfl, iteF ?_⟩⟩
    have xx := xd.trans x11
    have hg := (hg.gw x10).gw xx.ext
    have o := o10.ex ne xx
    clear xd x11 xx ndd2 hw6 hR2 x10 o10 hbs
    -- a least that is none
    refine ⟨_, rfl, _, _, rfl, rfl, 1, rfl, _, rfl, _, _, rfl, rfl, by show 5 ≤ sizeLine; decide, fun q4 nq4 => ?_⟩
    have kx : KX b l H11 H11 := KX.refl
    obtain ⟨o, hq4, xx⟩ := o.new (u := .lst [V.int (13 + fr), V.int (-1 - fr), V.non, V.str "0", V.bl true]) ne nq4
    have kx := kx.tr (kx_ext xx)
    have hg := hg.gw xx
    generalize upd H11 q4 (.lst [V.int (13 + fr), V.int (-1 - fr), V.non, V.str "0", V.bl true]) = Hx1 at o kx hq4 hg ⊢
    clear xx nq4
    refine ⟨_, rfl, b, l, 5, rfl, o.box, by decide, by decide, fun z H12 z0 z1 hB12 x12 => ?_⟩
    have kx := kx.tr (kx_kb x12)
    have hg := hg.kb o.box x12
    have hq4 := hq4.kb x12
    have o := o.draw x12 hB12
    clear x12 hB12
    obtain ⟨wv, hwv, ewv⟩ := pick (xs := ([V.int (13 + fr), V.int (-1 - fr), V.non, V.str "0", V.bl true] : List V)) (i := z) z0 z1
    refine ⟨q4, _, _, wv, rfl, rfl, SqL.of hq4.1, ewv, ?_⟩
    have hno : NoWh 0 12 wv := by
      simp only [List.mem_cons, List.not_mem_nil, or_false] at hwv
      rcases hwv with rfl | rfl | rfl | rfl | rfl
      · exact .inl ⟨_, rfl, by omega⟩
      · exact .inl ⟨_, rfl, by omega⟩
      · exact .inr (.inl rfl)
      · exact .inr (.inr (.inr ⟨_, rfl⟩))
      · exact .inr (.inr (.inl ⟨_, rfl⟩))
    clear hq4 ewv hwv z0 z1
    refine ⟨o.tb _ hq, fun f_l5 d_l5 Hx2 k1 k2 t11 nf hf hc => ?_⟩
    obtain ⟨o, xx⟩ := o.lam ne hq k1 k2 t11
    have kx := kx.tr (kx_ext xx)
    have hg := hg.gw xx
    have g_l5 : HfL f_l5 ⟨"<lambda>", qS, lm_l5.1, [], lm_l5.2.2, cloFrom (cxOf CX0 P w K mg base nmLaw "law" (defScope s_law) f (.ref cd) A outer s H E).nox.env.cells lm_l5.2.2.names [], d_l5⟩ lm_l5.2.1 _ := ⟨hf, hc⟩
    clear xx k1 k2 t11 nf hf hc
    refine ⟨by show 1 ≤ sizeLine; decide, fun w7 nw7 => ?_⟩
    obtain ⟨o, hw7, xx⟩ := o.new (u := .lst [V.ref f_l5]) ne nw7
    have kx := kx.tr (kx_ext xx)
    have hg := hg.gw xx
    have g_l5 := HfLgw g_l5 xx
    generalize upd Hx2 w7 (.lst [V.ref f_l5]) = Hx3 at o kx hw7 hg g_l5 ⊢
    clear xx nw7
    refine ⟨by show 2 ≤ sizeLine; decide, fun dd ndd cl Tc un => ?_⟩
    obtain ⟨o, hdd, xx⟩ := o.new (u := .tup [V.str "BadStyle", V.int 0]) ne ndd
    have kx := kx.tr (kx_ext xx)
    have hg := hg.gw xx
    have g_l5 := HfLgw g_l5 xx
    have hw7 := hw7.gw xx fun ps z => nomatch z
    generalize upd Hx3 dd (.tup [V.str "BadStyle", V.int 0]) = HZ at o kx hdd un hg g_l5 hw7 ⊢
    clear xx ndd
    have hdd := hdd.1
    refine ⟨w7, dd, [f_l5], 1, 0, rfl, tabs_addC o.tab un, add_at un hw7.1, add_at un hdd, fun f hf => ?_, fun H' x told => ⟨true, rfl, iteF ?_⟩⟩
    · rw [List.mem_singleton.mp hf]
      · refine TGK.ref_of (ws := [some (.ref pg), some wv]) sc_l5 (fun y hy => sc_l5.free (y, .free) hy rfl) (sub_l5) Tc un rfl rfl (fun i y v q1 q2 => by
          match i, q1, q2 with
          | 0, q1, q2 => cases q1; cases q2; exact ⟨12, rfl, rfl⟩
          | 1, q1, q2 => cases q1; cases q2; exact ⟨13, rfl, rfl⟩
          | i + 2, q1, _ => simp at q1) (fun H1 x => ⟨x.ext _ _ (add_at un g_l5.1) fnL_ne, x.ext _ _ (add_at un g_l5.2) LamX.codeO_ne⟩) (lok_l5 Ggap_within kgap_within bgap_within mgap_within) (fun H1 x1 _ Z E2 hE => ?_)
        exact ⟨_, wv, rfl, _, wv, _, rfl, x1.tab, 1, 0, .inr ⟨rfl, rfl, (hg.gw x1.ext).p hO, hno⟩, hE⟩
    have x2 := ex_del un x
    have o := o.ex ne x2
    have hg := hg.gw x2.ext
    clear kx un Tc told g_l5 hw7 hdd x
    generalize delC H' cl = H13 at o hg x2 ⊢
    clear x2
    -- a full page is let by
    have la : (as.map V.ref).length = rows.length := by rw [List.length_map, hg.ln]
    have h30 := hO.len
    have hpos := hO.pos
    refine ⟨_, rfl, pg, _, _, rfl, rfl, hg.hd.1, by decide, by decide, by rw [la]; show rows.length * 30 ≤ sizeLine; omega, fun f0 nf0 => ?_⟩
    obtain ⟨o, hf0, xx⟩ := o.new (u := .lst (List.replicate (30 : Int).toNat (as.map V.ref)).flatten) ne nf0
    have hg := hg.gw xx
    generalize upd H13 f0 (.lst (List.replicate (30 : Int).toNat (as.map V.ref)).flatten) = H14 at o hf0 hg ⊢
    clear xx nf0
    refine ⟨_, rfl, f0, _, rfl, SqL.of hf0.1, fun ff nff => ?_⟩
    have e30 : ∀ X : List V, cutV X none (some 30) = X.take 30 := fun X => cutT_hi X 30
    rw [e30]
    obtain ⟨o, hff, xx⟩ := o.new (u := .lst ((List.replicate (30 : Int).toNat (as.map V.ref)).flatten.take 30)) ne nff
    have hg := hg.gw xx
    generalize upd H14 ff (.lst ((List.replicate (30 : Int).toNat (as.map V.ref)).flatten.take 30)) = H15 at o hff hg ⊢
    clear xx nff e30
    obtain ⟨e1, e2⟩ := full_ok hO
    have e3 : (List.replicate (30 : Int).toNat (as.map V.ref)).flatten.take 30 = ((List.replicate 30 as).flatten.take 30).map V.ref := by
      show (List.replicate 30 (as.map V.ref)).flatten.take 30 = _
      rw [rep_map, List.map_take]
    rw [e3] at hff
    have hgF : GoodQ b l H15 ff ((List.replicate 30 as).flatten.take 30) ((List.replicate 30 rows).flatten.take 30) := ⟨hff, (hg.pr.rep hg.ln 30).take 30, by rw [List.length_take, List.length_take, rep_len, rep_len, hg.ln]⟩
    generalize (List.replicate 30 as).flatten.take 30 = AF at hgF
    generalize (List.replicate 30 rows).flatten.take 30 = RF at hgF e1 e2
    clear hff hf0 e3 hg
    refine ⟨_, rfl, _, rfl, _, rfl, by show 2 ≤ sizeLine; decide, fun ts nts => ?_⟩
    obtain ⟨o, hts2, xx⟩ := o.new (u := .tup [V.int g, V.int le]) ne nts
    have hgF := hgF.gw xx
    generalize upd H15 ts (.tup [V.int g, V.int le]) = H16 at o hts2 hgF ⊢
    clear xx nts
    refine ⟨ff, ts, AF, RF, g, le, rfl, o.tab, hgF.page, e2, ⟨SqT.of hts2.1, g0, by omega, le0, by omega⟩, fun r es H17 x17 nr nes told => ⟨r, _, rfl, .inl (SqL.of told.lst), rfl, false, ?_, iteF ?_⟩⟩
    · rw [List.length_map, told.len, e1]
      rfl
    have hgF := hgF.gw x17.ext
    have o := o.ex ne x17
    refine ⟨_, rfl, ff, AF, RF, rfl, o.tab, hgF.page, e2, fun H18 x18 => ⟨_, _, _, _, true, rfl, .ty _, .base (.str _), kit_ty (by decide +kernel), true, rfl, iteF ?_⟩⟩
    exact ⟨_, _, _, _, _, _, _, _, _, _, _, _, rfl, o.ex ne x18⟩
end
end TGK

namespace TG
open PySem PySem.Spec PyProof.Rows L2 TGK
/-! ### the head -/
theorem subL {K : PySem.W.Frag} {q : Addr × Addr} (h : q ∈ tfB.map (He.cT K)) : q ∈ tfL.map (He.cT K) := by
  unfold tfL
  rw [List.map_append]
  exact List.mem_append_left _ h
theorem memL {K : PySem.W.Frag} {r : He.Defn} (h : r ∈ lmL) : He.cT K r ∈ tfL.map (He.cT K) := by
  unfold tfL
  rw [List.map_append]
  exact List.mem_append_right _ (List.mem_map_of_mem h)
theorem ne_of_ex {K : PySem.W.Frag} (h : exL K = true) {r : He.Defn} (hr : r ∈ lmL) : Apart (tfB.map (He.cT K)) (He.cT K r).2 := fun q hq => by
  obtain ⟨d, hd, rfl⟩ := List.mem_map.mp hq
  have z := (Bool.and_eq_true_iff.mp (List.all_eq_true.mp h r hr)).1
  have z := List.all_eq_true.mp z d hd
  simpa using z
theorem ne_of_ex2 {K : PySem.W.Frag} (h : exL K = true) {r q : He.Defn} (hr : r ∈ lmL) (hq : q ∈ lmL) (n : q ≠ r) : (He.cT K q).2 ≠ (He.cT K r).2 := by
  have z := (Bool.and_eq_true_iff.mp (List.all_eq_true.mp h r hr)).2
  have z := List.all_eq_true.mp z q hq
  simpa [n] using z
theorem fun_of {K : PySem.W.Frag} {x : Str} {st : Stmt} {f : Addr} {fd : FuncData} (F : FunD K x x (defArgs st) (defBody st) (defScope st) [] [] f fd) : Fun K x x st f fd := by
  obtain ⟨⟨oc, od, dV, kV, doc, pm, an, cdv, ct, osl, e, lk, hcd, hd, _⟩, kp⟩ := F
  rcases hd with ⟨_, hd⟩ | ⟨hd, _⟩
  · subst hd
    exact ⟨⟨oc, od, kV, doc, pm, an, cdv, ct, osl, e, lk, hcd⟩, kp⟩
  · exact absurd rfl hd
/-- a def of the top, by its name -/
structure At (K : PySem.W.Frag) (mg : Str → Option Value) (x : Str) (st : Stmt) (fd : FuncData) : Prop where
  mg_ : mg x = some (.ref (He.ga K x))
  fn : Fun K x x st (He.ga K x) fd
theorem At.kp {K : PySem.W.Frag} {mg : Str → Option Value} {x : Str} {st : Stmt} {fd : FuncData} (a : At K mg x st fd) : PySem.W.keepIn K (.ref (He.ga K x)) = true := a.fn.kp
theorem fun_ofm {K : PySem.W.Frag} {x q : Str} {st : Stmt} {f : Addr} {fd : FuncData} (F : FunD K x q (defArgs st) (defBody st) (defScope st) [] [] f fd) : Fun K x q st f fd := by
  obtain ⟨⟨oc, od, dV, kV, doc, pm, an, cdv, ct, osl, e, lk, hcd, hd, _⟩, kp⟩ := F
  rcases hd with ⟨_, hd⟩ | ⟨hd, _⟩
  · subst hd
    exact ⟨⟨oc, od, kV, doc, pm, an, cdv, ct, osl, e, lk, hcd⟩, kp⟩
  · exact absurd rfl hd
theorem atm_of {fa : List He.Fa} {fn : List He.DefD} {K : PySem.W.Frag} (c : He.SaysD fa fn K) {k i : Nat} {C m : Str} (hd : dm k i C m ∈ fn) : ∃ fd, Fun K m (C ++ "." ++ m) (mth k i) (He.ma K (He.ga K C) m) fd := by
  obtain ⟨fd, F⟩ := c.defs hd
  exact ⟨fd, fun_ofm F⟩
theorem at_of {fa : List He.Fa} {fn : List He.DefD} {K : PySem.W.Frag} {h : Heap} {mg : Str → Option Value} (X : K.In h) (G : h.Ns mainGlobals mg) (c : He.SaysD fa fn K) {i : Nat} {x : Str} (hd : dd i x ∈ fn) (hf : He.Fa.glo x ∈ fa) : ∃ fd, At K mg x (top i) fd := by
  obtain ⟨fd, F⟩ := c.defs hd
  exact ⟨fd, He.glo_ok X G (c.facts hf), fun_of F⟩
theorem code_of {K : PySem.W.Frag} {mg : Str → Option Value} {x : Str} {st : Stmt} {fd : FuncData} (a : At K mg x st fd) : fd.code = .ref (He.cT K (x, none)).1 := by
  obtain ⟨oc, od, kV, doc, pm, an, cdv, ct, osl, e, lk, hcd⟩ := a.fn.ex
  obtain ⟨c, hc⟩ := He.codeIn_ref hcd
  have e2 : fd.code = .ref c := by rw [e, ← hc]
  have e3 : He.codeOf K (x, none) = c := He.codeOf_eq (p := (x, none)) lk e2
  show fd.code = .ref (He.codeOf K (x, none))
  rw [e3, e2]
theorem tab_conv {base : Heap} {mg : Str → Option Value} {c P : Addr} (t : LamX.TabB base mg c P) : GxR.TabB base mg c P := ⟨t.code, t.bm, t.gP⟩

theorem txt_of {K : PySem.W.Frag} {h : Heap} {mg : Str → Option Value} (X : K.In h) (G : h.Ns mainGlobals mg) (c : He.SaysD faL fnL K) : Txt mg := by
  constructor
  all_goals exact He.free_ok X G (c.facts (by simp [faL]))
theorem consts_of {K : PySem.W.Frag} {h : Heap} {mg : Str → Option Value} (X : K.In h) (G : h.Ns mainGlobals mg) (c : He.SaysD faL fnL K) : Consts mg := by
  constructor
  all_goals exact He.int_ok X G (c.facts (by simp [faL]))
theorem consts2_of {K : PySem.W.Frag} {h : Heap} {mg : Str → Option Value} (X : K.In h) (G : h.Ns mainGlobals mg) (c : He.SaysD faL fnL K) : Consts2 mg := by
  constructor
  all_goals exact He.int_ok X G (c.facts (by simp [faL]))
theorem excCB_ok {K : PySem.W.Frag} {D : Addr} (h : excCB K D = true) : ExcC K D := by
  obtain ⟨h1, h⟩ := He.ba h
  obtain ⟨h2, h⟩ := He.ba h
  obtain ⟨h3, h⟩ := He.ba h
  obtain ⟨h4, h⟩ := He.ba h
  obtain ⟨h5, h⟩ := He.ba h
  obtain ⟨h6, h⟩ := He.ba h
  obtain ⟨h7, h8⟩ := He.ba h
  exact ⟨He.eqO_ok h1, He.eqO_ok h2, of_decide_eq_true h3, h4, He.eqO_ok h5, He.eqO_ok h6, of_decide_eq_true h7, of_decide_eq_true h8⟩
theorem errs_of {K : PySem.W.Frag} {h : Heap} {mg : Str → Option Value} (X : K.In h) (G : h.Ns mainGlobals mg) (c : He.SaysD faL fnL K) (e : errsB K = true) : Errs K mg := by
  have at_ : ∀ j, j < 11 → _ := fun j hj => List.all_eq_true.mp e j (List.mem_range.mpr hj)
  refine ⟨fun j hj => ?_, He.glo_ok X G (c.facts (by simp [faL])), fun j hj => excCB_ok (He.ba (at_ j hj)).1, fun j hj => of_decide_eq_true (He.ba (He.ba (at_ j hj)).2).1, fun j hj => of_decide_eq_true (He.ba (He.ba (He.ba (at_ j hj)).2).2).1, fun i j hi hj => ?_, fun j hj hn => ?_, He.free_ok X G (c.facts (by simp [faL]))⟩
  · have : ∀ x ∈ excNm, mg x = some (.ref (He.ga K x)) := by
      intro x hx
      simp only [excNm, List.mem_cons, List.not_mem_nil, or_false] at hx
      rcases hx with rfl | rfl | rfl | rfl | rfl | rfl | rfl | rfl | rfl | rfl | rfl <;> exact He.glo_ok X G (c.facts (by simp [faL]))
    refine this _ ?_
    have h2 : j < excNm.length := hj
    simp only [nmE, List.getD, List.getElem?_eq_getElem h2, Option.getD_some]
    exact List.getElem_mem h2
  · have z := (He.ba (He.ba (He.ba (He.ba (at_ i hi)).2).2).2).1
    exact of_decide_eq_true (List.all_eq_true.mp z j (List.mem_range.mpr hj))
  · have z := (He.ba (He.ba (He.ba (He.ba (at_ j hj)).2).2).2).2
    rcases Bool.or_eq_true_iff.mp z with q | q
    · exact absurd (of_decide_eq_true q) hn
    · exact He.eqO_ok q
theorem triples_nil : TriplesOk (#[] : Array Value).toList := trivial
theorem facts {w : World} {K : PySem.W.Frag} {h : Heap} {mg : Str → Option Value} {f : Addr} (X : K.In h) (G : h.Ns mainGlobals mg) (hfa : mg ("law" : Str) = some (.ref f)) (c : He.SaysX faL fnL [] tfL exT w h K) (hv : (["BadPage"] : List Str).map (iniW K) = valsT) :
    LamX.LawAtS PySem.Challenge.rw_tabgrow_k01_pages_refused w K CX0 22 63 "_law_script" mg f h := by
  have cd := c.t.d
  have T := txt_of X G cd
  have N := consts_of X G cd
  have N2 := consts2_of X G cd
  obtain ⟨me, mr⟩ := He.ba c.more
  obtain ⟨mr, ms⟩ := He.ba mr
  have Er := errs_of X G cd ms
  have ne0 := ne_of_ex me (r := ("_law_doors", none)) (by simp [lmL])
  have ne := ne_of_ex me (r := ("law", none)) (by simp [lmL])
  have nn01 := ne_of_ex2 me (r := ("_law_doors", none)) (q := ("law", none)) (by simp [lmL]) (by simp [lmL]) (by decide)
  have nn10 := ne_of_ex2 me (r := ("law", none)) (q := ("_law_doors", none)) (by simp [lmL]) (by simp [lmL]) (by decide)
  have hz : mg "zip" = none := He.free_ok X G (cd.facts (by simp [faL]))
  obtain ⟨d26, a26⟩ := at_of X G cd (i := 26) (x := "is_whole") (by simp [fnL]) (by simp [faL])
  have b26 := a26.fn.binds (ps := ["value", "low", "high"]) fun _ _ _ _ _ _ us hl => match us, hl with | [_, _, _], _ => rfl
  obtain ⟨d27, a27⟩ := at_of X G cd (i := 27) (x := "is_sign") (by simp [fnL]) (by simp [faL])
  have b27 := a27.fn.binds (ps := ["sign"]) fun _ _ _ _ _ _ us hl => match us, hl with | [_], _ => rfl
  obtain ⟨d28, a28⟩ := at_of X G cd (i := 28) (x := "is_text_of_signs") (by simp [fnL]) (by simp [faL])
  have b28 := a28.fn.binds (ps := ["value", "most"]) fun _ _ _ _ _ _ us hl => match us, hl with | [_, _], _ => rfl
  obtain ⟨d29, a29⟩ := at_of X G cd (i := 29) (x := "is_row") (by simp [fnL]) (by simp [faL])
  have b29 := a29.fn.binds (ps := ["value"]) fun _ _ _ _ _ _ us hl => match us, hl with | [_], _ => rfl
  obtain ⟨d30, a30⟩ := at_of X G cd (i := 30) (x := "first_misfit") (by simp [fnL]) (by simp [faL])
  have b30 := a30.fn.binds (ps := ["rows"]) fun _ _ _ _ _ _ us hl => match us, hl with | [_], _ => rfl
  obtain ⟨d31, a31⟩ := at_of X G cd (i := 31) (x := "check_page") (by simp [fnL]) (by simp [faL])
  have b31 := a31.fn.binds (ps := ["page"]) fun _ _ _ _ _ _ us hl => match us, hl with | [_], _ => rfl
  obtain ⟨d33, a33⟩ := at_of X G cd (i := 33) (x := "check_style") (by simp [fnL]) (by simp [faL])
  have b33 := a33.fn.binds (ps := ["style"]) fun _ _ _ _ _ _ us hl => match us, hl with | [_], _ => rfl
  obtain ⟨d37, a37⟩ := at_of X G cd (i := 37) (x := "stretches") (by simp [fnL]) (by simp [faL])
  have b37 := a37.fn.binds (ps := ["page", "style"]) fun _ _ _ _ _ _ us hl => match us, hl with | [_, _], _ => rfl
  obtain ⟨d38, a38⟩ := at_of X G cd (i := 38) (x := "closed_runs") (by simp [fnL]) (by simp [faL])
  have b38 := a38.fn.binds (ps := ["page", "column"]) fun _ _ _ _ _ _ us hl => match us, hl with | [_, _], _ => rfl
  obtain ⟨d39, a39⟩ := at_of X G cd (i := 39) (x := "is_closed") (by simp [fnL]) (by simp [faL])
  have b39 := a39.fn.binds (ps := ["row", "column"]) fun _ _ _ _ _ _ us hl => match us, hl with | [_, _], _ => rfl
  obtain ⟨d40, a40⟩ := at_of X G cd (i := 40) (x := "described") (by simp [fnL]) (by simp [faL])
  have b40 := a40.fn.binds (ps := ["page", "style", "column", "begin", "end"]) fun _ _ _ _ _ _ us hl => match us, hl with | [_, _, _, _, _], _ => rfl
  obtain ⟨d41, a41⟩ := at_of X G cd (i := 41) (x := "stands_right") (by simp [fnL]) (by simp [faL])
  have b41 := a41.fn.binds (ps := ["cells"]) fun _ _ _ _ _ _ us hl => match us, hl with | [_], _ => rfl
  obtain ⟨d42, a42⟩ := at_of X G cd (i := 42) (x := "is_figures") (by simp [fnL]) (by simp [faL])
  have b42 := a42.fn.binds (ps := ["cell"]) fun _ _ _ _ _ _ us hl => match us, hl with | [_], _ => rfl
  obtain ⟨d44, a44⟩ := at_of X G cd (i := 44) (x := "stops") (by simp [fnL]) (by simp [faL])
  have b44 := a44.fn.binds (ps := ["page", "style"]) fun _ _ _ _ _ _ us hl => match us, hl with | [_, _], _ => rfl
  obtain ⟨d45, a45⟩ := at_of X G cd (i := 45) (x := "laid") (by simp [fnL]) (by simp [faL])
  have b45 := a45.fn.binds (ps := ["page", "style"]) fun _ _ _ _ _ _ us hl => match us, hl with | [_, _], _ => rfl
  obtain ⟨d46, a46⟩ := at_of X G cd (i := 46) (x := "shown") (by simp [fnL]) (by simp [faL])
  have b46 := a46.fn.binds (ps := ["page", "style"]) fun _ _ _ _ _ _ us hl => match us, hl with | [_, _], _ => rfl
  obtain ⟨d47, a47⟩ := at_of X G cd (i := 47) (x := "judged") (by simp [fnL]) (by simp [faL])
  have b47 := a47.fn.binds (ps := ["page", "style", "told"]) fun _ _ _ _ _ _ us hl => match us, hl with | [_, _, _], _ => rfl
  obtain ⟨d48, a48⟩ := at_of X G cd (i := 48) (x := "closed_cells") (by simp [fnL]) (by simp [faL])
  have b48 := a48.fn.binds (ps := ["page", "style"]) fun _ _ _ _ _ _ us hl => match us, hl with | [_, _], _ => rfl
  obtain ⟨d49, a49⟩ := at_of X G cd (i := 49) (x := "left_ends") (by simp [fnL]) (by simp [faL])
  have b49 := a49.fn.binds (ps := ["closed"]) fun _ _ _ _ _ _ us hl => match us, hl with | [_], _ => rfl
  obtain ⟨d50, a50⟩ := at_of X G cd (i := 50) (x := "begins_of") (by simp [fnL]) (by simp [faL])
  have b50 := a50.fn.binds (ps := ["row", "closed", "gap"]) fun _ _ _ _ _ _ us hl => match us, hl with | [_, _, _], _ => rfl
  obtain ⟨d51, a51⟩ := at_of X G cd (i := 51) (x := "line_of") (by simp [fnL]) (by simp [faL])
  have b51 := a51.fn.binds (ps := ["row", "begins"]) fun _ _ _ _ _ _ us hl => match us, hl with | [_, _], _ => rfl
  obtain ⟨d63, a63⟩ := at_of X G cd (i := 63) (x := "written") (by simp [fnL]) (by simp [faL])
  have b63 := a63.fn.binds (ps := ["page"]) fun _ _ _ _ _ _ us hl => match us, hl with | [_], _ => rfl
  obtain ⟨d73, a73⟩ := at_of X G cd (i := 73) (x := "placed") (by simp [fnL]) (by simp [faL])
  have b73 := a73.fn.binds (ps := ["page", "style", "row"]) fun _ _ _ _ _ _ us hl => match us, hl with | [_, _, _], _ => rfl
  obtain ⟨d74, a74⟩ := at_of X G cd (i := 74) (x := "many_moved") (by simp [fnL]) (by simp [faL])
  have b74 := a74.fn.binds (ps := ["page", "style", "number", "row"]) fun _ _ _ _ _ _ us hl => match us, hl with | [_, _, _, _], _ => rfl
  obtain ⟨d75, a75⟩ := at_of X G cd (i := 75) (x := "gap_within") (by simp [fnL]) (by simp [faL])
  have b75 := a75.fn.binds (ps := ["page", "least", "most"]) fun _ _ _ _ _ _ us hl => match us, hl with | [_, _, _], _ => rfl
  obtain ⟨d77, a77⟩ := at_of X G cd (i := 77) (x := "route") (by simp [fnL]) (by simp [faL])
  have b77 := a77.fn.binds (ps := ["page", "other"]) fun _ _ _ _ _ _ us hl => match us, hl with | [_, _], _ => rfl
  obtain ⟨d79, a79⟩ := at_of X G cd (i := 79) (x := "stepped") (by simp [fnL]) (by simp [faL])
  have b79 := a79.fn.binds (ps := ["page", "style", "steps"]) fun _ _ _ _ _ _ us hl => match us, hl with | [_, _, _], _ => rfl
  obtain ⟨d84, a84⟩ := at_of X G cd (i := 84) (x := "_law_begun") (by simp [fnL]) (by simp [faL])
  have b84 := a84.fn.binds (ps := ["_law_script"]) fun _ _ _ _ _ _ us hl => match us, hl with | [_], _ => rfl
  obtain ⟨d85, a85⟩ := at_of X G cd (i := 85) (x := "_law_take") (by simp [fnL]) (by simp [faL])
  have b85 := a85.fn.binds (ps := ["_law_box", "_law_many"]) fun _ _ _ _ _ _ us hl => match us, hl with | [_, _], _ => rfl
  obtain ⟨d86, a86⟩ := at_of X G cd (i := 86) (x := "_law_alike") (by simp [fnL]) (by simp [faL])
  have b86 := a86.fn.binds (ps := ["_law_found", "_law_due"]) fun _ _ _ _ _ _ us hl => match us, hl with | [_, _], _ => rfl
  obtain ⟨d87, a87⟩ := at_of X G cd (i := 87) (x := "_law_told") (by simp [fnL]) (by simp [faL])
  have b87 := a87.fn.binds (ps := ["_law_work"]) fun _ _ _ _ _ _ us hl => match us, hl with | [_], _ => rfl
  obtain ⟨d88, a88⟩ := at_of X G cd (i := 88) (x := "_law_all") (by simp [fnL]) (by simp [faL])
  have b88 := a88.fn.binds (ps := ["_law_works", "_law_due"]) fun _ _ _ _ _ _ us hl => match us, hl with | [_, _], _ => rfl
  obtain ⟨d89, a89⟩ := at_of X G cd (i := 89) (x := "_law_sign") (by simp [fnL]) (by simp [faL])
  have b89 := a89.fn.binds (ps := ["_law_box"]) fun _ _ _ _ _ _ us hl => match us, hl with | [_], _ => rfl
  obtain ⟨d90, a90⟩ := at_of X G cd (i := 90) (x := "_law_cell") (by simp [fnL]) (by simp [faL])
  have b90 := a90.fn.binds (ps := ["_law_box", "_law_sort"]) fun _ _ _ _ _ _ us hl => match us, hl with | [_, _], _ => rfl
  obtain ⟨d91, a91⟩ := at_of X G cd (i := 91) (x := "_law_row") (by simp [fnL]) (by simp [faL])
  have b91 := a91.fn.binds (ps := ["_law_box", "_law_sorts", "_law_many"]) fun _ _ _ _ _ _ us hl => match us, hl with | [_, _, _], _ => rfl
  obtain ⟨d92, a92⟩ := at_of X G cd (i := 92) (x := "_law_page") (by simp [fnL]) (by simp [faL])
  have b92 := a92.fn.binds (ps := ["_law_box", "_law_most"]) fun _ _ _ _ _ _ us hl => match us, hl with | [_, _], _ => rfl
  obtain ⟨d93, a93⟩ := at_of X G cd (i := 93) (x := "_law_style") (by simp [fnL]) (by simp [faL])
  have b93 := a93.fn.binds (ps := ["_law_box"]) fun _ _ _ _ _ _ us hl => match us, hl with | [_], _ => rfl
  obtain ⟨d94, a94⟩ := at_of X G cd (i := 94) (x := "_law_bad_cell") (by simp [fnL]) (by simp [faL])
  have b94 := a94.fn.binds (ps := ["_law_box"]) fun _ _ _ _ _ _ us hl => match us, hl with | [_], _ => rfl
  obtain ⟨d95, a95⟩ := at_of X G cd (i := 95) (x := "_law_bad_row") (by simp [fnL]) (by simp [faL])
  have b95 := a95.fn.binds (ps := ["_law_box", "_law_row_here"]) fun _ _ _ _ _ _ us hl => match us, hl with | [_, _], _ => rfl
  obtain ⟨d96, a96⟩ := at_of X G cd (i := 96) (x := "_law_bad_page") (by simp [fnL]) (by simp [faL])
  have b96 := a96.fn.binds (ps := ["_law_box"]) fun _ _ _ _ _ _ us hl => match us, hl with | [_], _ => rfl
  obtain ⟨d97, a97⟩ := at_of X G cd (i := 97) (x := "_law_doors") (by simp [fnL]) (by simp [faL])
  have b97 := a97.fn.binds (ps := ["_law_page_here", "_law_style_here"]) fun _ _ _ _ _ _ us hl => match us, hl with | [_, _], _ => rfl
  obtain ⟨d98, a98⟩ := at_of X G cd (i := 98) (x := "law") (by simp [fnL]) (by simp [faL])
  have b98 := a98.fn.binds (ps := ["_law_script"]) fun _ _ _ _ _ _ us hl => match us, hl with | [_], _ => rfl
  have hf : ∀ {x : He.Fa}, x ∈ faL → He.Fa.ok K x = true := fun h => cd.facts h
  have eS := He.exc_ok (hf (x := .exc "BadStyle") (by simp [faL]))
  have ErS : TGK.ErrC K mg "BadStyle" (He.ga K "BadStyle") (He.ga K "GrowError") := ⟨He.glo_ok X G (hf (x := .glo "BadStyle") (by simp [faL])), eS.1, eS.2.1, eS.2.2.1, eS.2.2.2, He.exm_ok (hf (x := .exm "BadStyle" "GrowError" true) (by simp [faL]))⟩
  have eT : ∃ t, mg "TAB" = some (.str tabS t) := He.str_ok X G (hf (x := .str "TAB" "\t") (by simp [faL]))
  have eL : ∃ t, mg "LINE_END" = some (.str lineS t) := He.str_ok X G (hf (x := .str "LINE_END" "\n") (by simp [faL]))
  have gC_Sheet : mg "Sheet" = some (.ref (He.ga K "Sheet")) := He.glo_ok X G (hf (x := .glo "Sheet") (by simp [faL]))
  have gC_Cursor : mg "Cursor" = some (.ref (He.ga K "Cursor")) := He.glo_ok X G (hf (x := .glo "Cursor") (by simp [faL]))
  have gC_Table : mg "Table" = some (.ref (He.ga K "Table")) := He.glo_ok X G (hf (x := .glo "Table") (by simp [faL]))
  obtain ⟨d_Sheet_init, a_Sheet_init⟩ := atm_of cd (k := 53) (i := 0) (C := "Sheet") (m := "__init__") (by simp [fnL])
  have b_Sheet_init := a_Sheet_init.binds (ps := ["self", "page", "style"]) fun _ _ _ _ _ _ us hl => match us, hl with | [_, _, _], _ => rfl
  have mk_Sheet : Mk K (He.ga K "Sheet") (He.ma K (He.ga K "Sheet") "__init__") := He.mkr_ok (hf (x := .mkr "Sheet") (by simp [faL]))
  obtain ⟨d_Cursor_init, a_Cursor_init⟩ := atm_of cd (k := 59) (i := 0) (C := "Cursor") (m := "__init__") (by simp [fnL])
  have b_Cursor_init := a_Cursor_init.binds (ps := ["self", "page", "style"]) fun _ _ _ _ _ _ us hl => match us, hl with | [_, _, _], _ => rfl
  have mk_Cursor : Mk K (He.ga K "Cursor") (He.ma K (He.ga K "Cursor") "__init__") := He.mkr_ok (hf (x := .mkr "Cursor") (by simp [faL]))
  obtain ⟨d_Table_init, a_Table_init⟩ := atm_of cd (k := 67) (i := 0) (C := "Table") (m := "__init__") (by simp [fnL])
  have b_Table_init := a_Table_init.binds (ps := ["self", "page", "style", "hands"]) fun _ _ _ _ _ _ us hl => match us, hl with | [_, _, _, _], _ => rfl
  have mk_Table : Mk K (He.ga K "Table") (He.ma K (He.ga K "Table") "__init__") := He.mkr_ok (hf (x := .mkr "Table") (by simp [faL]))
  have e := hfa.symm.trans a98.mg_
  cases e
  refine ⟨d98, tfL.map (He.cT K), spLaw K (tfB.map (He.cT K)) (He.cT K ("_law_doors", none)).2 (He.cT K ("law", none)).2, fun p hp => ?_, fun p hp => ?_, fun p hp => ?_, fun s u => ?_, fun H a ns hl _ hT hS => ⟨a, ns, rfl, fun p hp => ⟨_, hT p (subL hp), triples_nil⟩, LamX.TabS.nil (hT _ (memL (r := ("_law_doors", none)) (by simp [lmL]))), LamX.TabS.nil (hT _ (memL (r := ("law", none)) (by simp [lmL]))), hS, hl, fun _ => rfl⟩, fun base KB _ TB => ?_⟩
  · obtain ⟨p', hp', rfl⟩ := List.mem_map.mp hp
    exact c.empty p' hp'
  · obtain ⟨p', hp', rfl⟩ := List.mem_map.mp hp
    exact c.out p' hp'
  · obtain ⟨p', hp', rfl⟩ := List.mem_map.mp hp
    exact PySem.W.codeHd_of_K X (c.hd p' hp')
  · obtain ⟨oc, od, kV, doc, pm, an, cdv, ct, osl, e, _, _⟩ := a98.fn.ex
    rw [e]
    exact .of_eq rfl
  obtain ⟨fdI, R⟩ := raise_lines (P := PySem.Challenge.rw_tabgrow_k01_pages_refused.prog) (w := w) (base := base) X G mr (by simpa using hv) (He.free_ok X G (cd.facts (by simp [faL]))) (by decide +kernel)
  have m28 : He.cT K ("is_text_of_signs", none) ∈ tfB.map (He.cT K) := List.mem_map.mpr ⟨_, by simp [tfB], rfl⟩
  have t28 := tab_conv (TB _ (subL m28))
  have m29 : He.cT K ("is_row", none) ∈ tfB.map (He.cT K) := List.mem_map.mpr ⟨_, by simp [tfB], rfl⟩
  have t29 := tab_conv (TB _ (subL m29))
  have m37 : He.cT K ("stretches", none) ∈ tfB.map (He.cT K) := List.mem_map.mpr ⟨_, by simp [tfB], rfl⟩
  have t37 := tab_conv (TB _ (subL m37))
  have m40 : He.cT K ("described", none) ∈ tfB.map (He.cT K) := List.mem_map.mpr ⟨_, by simp [tfB], rfl⟩
  have t40 := tab_conv (TB _ (subL m40))
  have m41 : He.cT K ("stands_right", none) ∈ tfB.map (He.cT K) := List.mem_map.mpr ⟨_, by simp [tfB], rfl⟩
  have t41 := tab_conv (TB _ (subL m41))
  have g84 := ok_begun (P := PySem.Challenge.rw_tabgrow_k01_pages_refused.prog) (w := w) (base := base) (mg := mg) T a84.fn 
  have g85 := ok_take (P := PySem.Challenge.rw_tabgrow_k01_pages_refused.prog) (w := w) (base := base) (mg := mg)  a85.fn 
  have g85_W := ok_takeW (P := PySem.Challenge.rw_tabgrow_k01_pages_refused.prog) (w := w) (base := base) (mg := mg)  a85.fn 
  have g89 := ok_sign (P := PySem.Challenge.rw_tabgrow_k01_pages_refused.prog) (w := w) (base := base) (mg := mg)  a89.fn g85 a85.kp b85 a85.mg_
  have g90 := ok_cell (P := PySem.Challenge.rw_tabgrow_k01_pages_refused.prog) (w := w) (base := base) (mg := mg) T a90.fn g85 a85.kp b85 a85.mg_ g89 a89.kp b89 a89.mg_
  have g91 := ok_lrow (P := PySem.Challenge.rw_tabgrow_k01_pages_refused.prog) (w := w) (base := base) (mg := mg) T a91.fn g90 a90.kp b90 a90.mg_
  have g92 := ok_lpage (P := PySem.Challenge.rw_tabgrow_k01_pages_refused.prog) (w := w) (base := base) (mg := mg) T a92.fn g85 a85.kp b85 a85.mg_ g91 a91.kp b91 a91.mg_
  have g86 := ok_alike (P := PySem.Challenge.rw_tabgrow_k01_pages_refused.prog) (w := w) (base := base) (mg := mg) T a86.fn b86 a86.mg_ 4
  have g94 := TGK.ok_badC (P := PySem.Challenge.rw_tabgrow_k01_pages_refused.prog) (w := w) (base := base) (mg := mg) T a94.fn g85_W a85.kp b85 a85.mg_
  have g95 := TGK.ok_badR (P := PySem.Challenge.rw_tabgrow_k01_pages_refused.prog) (w := w) (base := base) (mg := mg) T a95.fn g85_W a85.kp b85 a85.mg_ g94 a94.kp b94 a94.mg_
  have g87 := ok_tellsW (P := PySem.Challenge.rw_tabgrow_k01_pages_refused.prog) (w := w) (base := base) (mg := mg) (cs := tfB.map (He.cT K)) (kl := 18) T Er a87.fn 
  have g88 := ok_allW (P := PySem.Challenge.rw_tabgrow_k01_pages_refused.prog) (w := w) (base := base) (mg := mg) (kl := 18) (by decide) a88.fn g86 a86.kp b86 a86.mg_ g87 a87.kp b87 a87.mg_
  have g27 := ok_sg (P := PySem.Challenge.rw_tabgrow_k01_pages_refused.prog) (w := w) (base := base) (mg := mg) T N a27.fn 
  have g28 := ok_text (P := PySem.Challenge.rw_tabgrow_k01_pages_refused.prog) (w := w) (base := base) (mg := mg) T a28.fn (code_of a28) t28 m28 g27 a27.kp b27 a27.mg_
  have g29 := ok_isrow (P := PySem.Challenge.rw_tabgrow_k01_pages_refused.prog) (w := w) (base := base) (mg := mg) T N a29.fn (code_of a29) t29 m29 g28 a28.kp b28 a28.mg_
  have g30 := ok_misfit (P := PySem.Challenge.rw_tabgrow_k01_pages_refused.prog) (w := w) (base := base) (mg := mg) T N a30.fn g29 a29.kp b29 a29.mg_
  have g31 := ok_check (P := PySem.Challenge.rw_tabgrow_k01_pages_refused.prog) (w := w) (base := base) (mg := mg) T a31.fn g30 a30.kp b30 a30.mg_
  have g26 := ok_whole (P := PySem.Challenge.rw_tabgrow_k01_pages_refused.prog) (w := w) (base := base) (mg := mg) T a26.fn 
  have g33 := ok_cstyle (P := PySem.Challenge.rw_tabgrow_k01_pages_refused.prog) (w := w) (base := base) (mg := mg) T N a33.fn g26 a26.kp b26 a26.mg_
  have g39 := ok_closed (P := PySem.Challenge.rw_tabgrow_k01_pages_refused.prog) (w := w) (base := base) (mg := mg) T a39.fn 
  have g38 := ok_runs (P := PySem.Challenge.rw_tabgrow_k01_pages_refused.prog) (w := w) (base := base) (mg := mg) (cs := tfB.map (He.cT K)) T a38.fn g39 a39.kp b39 a39.mg_
  have g42 := ok_isfig (P := PySem.Challenge.rw_tabgrow_k01_pages_refused.prog) (w := w) (base := base) (mg := mg)  a42.fn 
  have g41 := ok_right (P := PySem.Challenge.rw_tabgrow_k01_pages_refused.prog) (w := w) (base := base) (mg := mg) T a41.fn (code_of a41) t41 m41 g42 a42.kp b42 a42.mg_
  have g40 := ok_desc (P := PySem.Challenge.rw_tabgrow_k01_pages_refused.prog) (w := w) (base := base) (mg := mg) T a40.fn (code_of a40) t40 m40 g41 a41.kp b41 a41.mg_
  have g37 := ok_str (P := PySem.Challenge.rw_tabgrow_k01_pages_refused.prog) (w := w) (base := base) (mg := mg) T a37.fn (code_of a37) t37 m37 g31 a31.kp b31 a31.mg_ g33 a33.kp b33 a33.mg_ g38 a38.kp b38 a38.mg_ g40 a40.kp b40 a40.mg_
  have g48 := ok_cc (P := PySem.Challenge.rw_tabgrow_k01_pages_refused.prog) (w := w) (base := base) (mg := mg) T a48.fn g37 a37.kp b37 a37.mg_
  have g49 := ok_le (P := PySem.Challenge.rw_tabgrow_k01_pages_refused.prog) (w := w) (base := base) (mg := mg)  a49.fn 
  have g50 := ok_bo (P := PySem.Challenge.rw_tabgrow_k01_pages_refused.prog) (w := w) (base := base) (mg := mg) T a50.fn g49 a49.kp b49 a49.mg_
  have g45 := ok_laid (P := PySem.Challenge.rw_tabgrow_k01_pages_refused.prog) (w := w) (base := base) (mg := mg) hz a45.fn g48 a48.kp b48 a48.mg_ g50 a50.kp b50 a50.mg_
  have g63 := ok_writ (P := PySem.Challenge.rw_tabgrow_k01_pages_refused.prog) (w := w) (base := base) (mg := mg) eT eL a63.fn g31 a31.kp b31 a31.mg_
  have g26_N := TGK.ok_wholeN (P := PySem.Challenge.rw_tabgrow_k01_pages_refused.prog) (w := w) (base := base) (mg := mg) T a26.fn 
  have g27_2 := TGK.ok_sg2 (P := PySem.Challenge.rw_tabgrow_k01_pages_refused.prog) (w := w) (base := base) (mg := mg) T N a27.fn 
  have g28_2 := TGK.ok_text2 (P := PySem.Challenge.rw_tabgrow_k01_pages_refused.prog) (w := w) (base := base) (mg := mg) T a28.fn (code_of a28) t28 m28 g27_2 a27.kp b27 a27.mg_
  have g29_N := TGK.ok_rowN (P := PySem.Challenge.rw_tabgrow_k01_pages_refused.prog) (w := w) (base := base) (mg := mg) T N a29.fn (code_of a29) t29 m29 g28_2 a28.kp b28 a28.mg_
  have g51 := ok_lineof (P := PySem.Challenge.rw_tabgrow_k01_pages_refused.prog) (w := w) (base := base) (mg := mg) hz a51.fn 
  have dS := TGK.ok_styleB (P := PySem.Challenge.rw_tabgrow_k01_pages_refused.prog) (w := w) (base := base) (mg := mg) T N ErS a33.fn (fn_or g26 g26_N) a26.kp b26 a26.mg_
  have dM := TGK.ok_misM (P := PySem.Challenge.rw_tabgrow_k01_pages_refused.prog) (w := w) (base := base) (mg := mg) (cs := tfB.map (He.cT K)) T N a30.fn (fn_or g29 g29_N) a29.kp b29 a29.mg_
  have dPX := TGK.ok_pageX (P := PySem.Challenge.rw_tabgrow_k01_pages_refused.prog) (w := w) (base := base) (mg := mg) (cs := tfB.map (He.cT K)) T R a31.fn dM a30.kp b30 a30.mg_
  have d_str := TGK.ok_strD (P := PySem.Challenge.rw_tabgrow_k01_pages_refused.prog) (w := w) (base := base) (mg := mg) (cs := tfB.map (He.cT K)) rfl rfl a37.fn (fn_or dPX (fnX_of g31)) a31.kp b31 a31.mg_ dS a33.kp b33 a33.mg_
  have d_cc := TGK.ok_ccD (P := PySem.Challenge.rw_tabgrow_k01_pages_refused.prog) (w := w) (base := base) (mg := mg) (cs := tfB.map (He.cT K)) a48.fn d_str a37.kp b37 a37.mg_
  have d_stops := TGK.ok_stopsD (P := PySem.Challenge.rw_tabgrow_k01_pages_refused.prog) (w := w) (base := base) (mg := mg) (cs := tfB.map (He.cT K)) a44.fn d_cc a48.kp b48 a48.mg_ g49 a49.kp b49 a49.mg_
  have d_laid := TGK.ok_laidD (P := PySem.Challenge.rw_tabgrow_k01_pages_refused.prog) (w := w) (base := base) (mg := mg) (cs := tfB.map (He.cT K)) a45.fn d_cc a48.kp b48 a48.mg_
  have d_shown := TGK.ok_shownD (P := PySem.Challenge.rw_tabgrow_k01_pages_refused.prog) (w := w) (base := base) (mg := mg) (cs := tfB.map (He.cT K)) hz a46.fn d_laid a45.kp b45 a45.mg_ g51 a51.kp b51 a51.mg_
  have d_jud := TGK.ok_judD (P := PySem.Challenge.rw_tabgrow_k01_pages_refused.prog) (w := w) (base := base) (mg := mg) (cs := tfB.map (He.cT K)) a47.fn d_laid a45.kp b45 a45.mg_
  have d_shi := TGK.ok_shiD (P := PySem.Challenge.rw_tabgrow_k01_pages_refused.prog) (w := w) (base := base) (mg := mg) (cs := tfB.map (He.cT K)) rfl rfl a_Sheet_init (fn_or dPX (fnX_of g31)) a31.kp b31 a31.mg_ dS a33.kp b33 a33.mg_
  have d_cui := TGK.ok_cuiD (P := PySem.Challenge.rw_tabgrow_k01_pages_refused.prog) (w := w) (base := base) (mg := mg) (cs := tfB.map (He.cT K)) a_Cursor_init mk_Sheet d_shi b_Sheet_init gC_Sheet
  have d_stp := TGK.ok_stpD (P := PySem.Challenge.rw_tabgrow_k01_pages_refused.prog) (w := w) (base := base) (mg := mg) (cs := tfB.map (He.cT K)) a79.fn mk_Sheet d_shi b_Sheet_init gC_Sheet
  have d_mm := TGK.ok_mmD (P := PySem.Challenge.rw_tabgrow_k01_pages_refused.prog) (w := w) (base := base) (mg := mg) (cs := tfB.map (He.cT K)) a74.fn mk_Sheet d_shi b_Sheet_init gC_Sheet
  have d_wr := TGK.ok_wrD (P := PySem.Challenge.rw_tabgrow_k01_pages_refused.prog) (w := w) (base := base) (mg := mg) (cs := tfB.map (He.cT K)) rfl a63.fn (fn_or dPX (fnX_of g31)) a31.kp b31 a31.mg_
  have d_pl := TGK.ok_plD (P := PySem.Challenge.rw_tabgrow_k01_pages_refused.prog) (w := w) (base := base) (mg := mg) (cs := tfB.map (He.cT K)) T rfl a73.fn (fn_or dPX (fnX_of g31)) a31.kp b31 a31.mg_ d_mm a74.kp b74 a74.mg_
  have d_gap := TGK.ok_gapD (P := PySem.Challenge.rw_tabgrow_k01_pages_refused.prog) (w := w) (base := base) (mg := mg) (cs := tfB.map (He.cT K)) rfl rfl a75.fn (fn_or dPX (fnX_of g31)) a31.kp b31 a31.mg_ dS a33.kp b33 a33.mg_
  have d_rou := TGK.ok_rouD (P := PySem.Challenge.rw_tabgrow_k01_pages_refused.prog) (w := w) (base := base) (mg := mg) (cs := tfB.map (He.cT K)) rfl a77.fn (fn_or dPX (fnX_of g31)) a31.kp b31 a31.mg_
  have d_tin := TGK.ok_tinD (P := PySem.Challenge.rw_tabgrow_k01_pages_refused.prog) (w := w) (base := base) (mg := mg) (cs := tfB.map (He.cT K)) rfl a_Table_init (fn_or d_wr (fnX_of g63)) a63.kp b63 a63.mg_ dS a33.kp b33 a33.mg_
  have neT : TGK.Tbs (tfB.map (He.cT K)) [((He.cT K ("_law_doors", none)).2, TGK.qD), ((He.cT K ("law", none)).2, TGK.qS)] := TGK.tbs2 ne0 ne nn10
  have d_doors := TGK.ok_doors (P := PySem.Challenge.rw_tabgrow_k01_pages_refused.prog) (w := w) (base := base) (mg := mg) neT (.head _) a97.fn (code_of a97) (TB _ (memL (r := ("_law_doors", none)) (by simp [lmL]))) (d_str.mono (by decide)) a37.kp b37 a37.mg_ (d_stops.mono (by decide)) a44.kp b44 a44.mg_ (d_laid.mono (by decide)) a45.kp b45 a45.mg_ (d_shown.mono (by decide)) a46.kp b46 a46.mg_ (d_jud.mono (by decide)) a47.kp b47 a47.mg_ (d_stp.mono (by decide)) a79.kp b79 a79.mg_ (d_pl.mono (by decide)) a73.kp b73 a73.mg_ mk_Sheet (d_shi.mono (by decide)) b_Sheet_init gC_Sheet mk_Cursor (d_cui.mono (by decide)) b_Cursor_init gC_Cursor mk_Table (d_tin.mono (by decide)) b_Table_init gC_Table
  have d_BP := TGK.ok_BP (P := PySem.Challenge.rw_tabgrow_k01_pages_refused.prog) (w := w) (base := base) (mg := mg) T a96.fn g85_W a85.kp b85 a85.mg_ g92 a92.kp b92 a92.mg_ g95 a95.kp b95 a95.mg_
  exact TGK.ok_law (P := PySem.Challenge.rw_tabgrow_k01_pages_refused.prog) (w := w) (base := base) (mg := mg) T rfl neT a98.fn (code_of a98) (TB _ (memL (r := ("law", none)) (by simp [lmL]))) g84 a84.kp b84 a84.mg_ g85_W a85.kp b85 a85.mg_ g92 a92.kp b92 a92.mg_ d_BP a96.kp b96 a96.mg_ d_doors a97.kp b97 a97.mg_ g88 a88.kp b88 a88.mg_ g45 a45.kp b45 a45.mg_ g63 (d_wr.mono (by decide)) a63.kp b63 a63.mg_ (d_gap.mono (by decide)) a75.kp b75 a75.mg_ (d_rou.mono (by decide)) a77.kp b77 a77.mg_
end TG


open PySem PySem.W PySem.Calls PyProof.Rows
theorem PySem.Challenge.cw_tabgrow_k01_pages_refused_holds : PySem.Challenge.rw_tabgrow_k01_pages_refused.Holds := by
  w_on; o_law
  refine HandSHeadRun.head_any (r := OpenLaw.row PySem.Challenge.rw_tabgrow_k01_pages_refused) (q := view (OpenLaw.row PySem.Challenge.rw_tabgrow_k01_pages_refused).prog [98]) (H := TG.hdHk) (ob := TG.hdOb) (M := 9000) (loose := TG.looseL) (d := HandSHeadRun.topDef (OpenLaw.row PySem.Challenge.rw_tabgrow_k01_pages_refused).prog 98) (kwd := []) TG.hdOb_eq
    (by kernel_rfl) (fun s => by kernel_rfl) TG.hdRun (by kernel_rfl) (by kernel_rfl) (by kernel_rfl) (by rfl) (by first | assumption | decide +kernel) (by decide +kernel) ⟨rfl, rfl, rfl, rfl, rfl, by decide +kernel⟩ ?hw ?hc
  case hw => w_witness2
  case hc =>
    refine LamX.walk_ofTsE (l := PySem.Challenge.rw_tabgrow_k01_pages_refused) (n := 63) (k := 22) (x := "_law_script") (CX := fun _ => L2.CX0) rfl (by decide) (by kernel_rfl) ⟨rfl, by decide, by decide⟩ ?F (fun _ _ _ _ _ z => z)
    intro w mg fa h Y G hmg0
    obtain ⟨K, KX, c, hv⟩ := Y
    have hmg : mg ("law" : PySem.Str) = some (.ref fa) := by
      have e : (HandSHeadRun.topDef (OpenLaw.row PySem.Challenge.rw_tabgrow_k01_pages_refused).prog 98).name = ("law" : PySem.Str) := by kernel_rfl
      rw [← e]
      exact hmg0
    exact ⟨K, KX, TG.facts KX G hmg c hv⟩

