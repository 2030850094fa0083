import PyProof.Rows.All
import Wide.All
import OpenK.AllK
import Wide.FinOn
import HandS.Base
import HandS.Call
import HandS.List
import HandS.Comp
import HandS.Ends
import HandS.Dict
import HandS.Iter
import HandS.Text
import KE.KeyNested
import KE.KDictKeyed
import HandS.NoneIn
import HandS.Deep
import HandS.TupAny
import HandS.IsInst
import HandS.Words
import HandS.WordsList
import KE.GoesEnum
import KE.GoesMore
import KE.GoesZip
import HandS.Zip
import HandS.Style
import KE.DataMinMax
import HandS.FStr
import HandS.More
import HandS.DictComp
import HandS.Strs
import KE.KDictZip
import HandS.Conv
import HandS.Finally
import HandS.Exc
import HandS.ExcInit
import HandS.Nested
import KE.KExcSuper
import HandS.MakeKwOnly
import HandS.CallSlots
import HandS.ExcOwn
import PyProof.Rows.RegStrFacts
import PyProof.Rows.ListStrD
import PyProof.StrBlock2
import HandS.Lambda
import KE.KDflt
import HandS.WordsExc
import HandS.Defaults
import HandS.HeadHook3
import HandS.ExcIs
import HandS.ExcField
import KE.KExcIs
import HandS.EndOwn
import KE.KNestM
import KE.KStateDown
import HandS.Head3
import HandS.HeadHook4
import PySem.Challenge.RW_hingehall_k01_halls_refused
namespace Pd
end Pd
namespace PySem
end PySem
namespace F
end F
namespace Lmp
end Lmp
namespace Lmd
end Lmd
set_option Elab.async false
set_option linter.all false
set_option maxRecDepth 100000
set_option maxHeartbeats 4000000
namespace Pd
open PySem PySem.Spec PyProof.Rows L2

/-- the world that hashes texts -/
class Wd where
  w : World
variable [Wd]
end Pd
set_option Elab.async false
set_option linter.all false
set_option maxRecDepth 100000
set_option maxHeartbeats 4000000
set_option Elab.async false
set_option linter.all false
set_option maxRecDepth 100000
set_option maxHeartbeats 4000000
set_option Elab.async false
set_option linter.all false
set_option maxRecDepth 100000
set_option maxHeartbeats 4000000
set_option Elab.async false
set_option linter.all false
set_option maxRecDepth 100000
set_option maxHeartbeats 4000000
set_option Elab.async false
set_option linter.all false
set_option maxRecDepth 100000
set_option maxHeartbeats 4000000
set_option Elab.async false
set_option linter.all false
set_option maxRecDepth 100000
set_option maxHeartbeats 4000000
set_option Elab.async false
set_option linter.all false
set_option maxRecDepth 100000
set_option maxHeartbeats 4000000
set_option Elab.async false
set_option linter.all false
set_option maxRecDepth 100000
set_option maxHeartbeats 4000000
set_option Elab.async false
set_option linter.all false
set_option maxRecDepth 100000
set_option maxHeartbeats 4000000
set_option Elab.async false
set_option linter.all false
set_option maxRecDepth 100000
set_option maxHeartbeats 4000000
set_option Elab.async false
set_option linter.all false
set_option maxRecDepth 100000
set_option maxHeartbeats 4000000
set_option Elab.async false
set_option linter.all false
set_option maxRecDepth 100000
set_option maxHeartbeats 4000000
set_option Elab.async false
set_option linter.all false
set_option maxRecDepth 100000
set_option maxHeartbeats 4000000
set_option Elab.async false
set_option linter.all false
set_option maxRecDepth 100000
set_option maxHeartbeats 4000000
set_option Elab.async false
set_option linter.all false
set_option maxRecDepth 100000
set_option maxHeartbeats 4000000
set_option Elab.async false
set_option linter.all false
set_option maxRecDepth 100000
set_option maxHeartbeats 4000000
set_option Elab.async false
set_option linter.all false
set_option maxRecDepth 100000
set_option maxHeartbeats 4000000
set_option Elab.async false
set_option linter.all false
set_option maxRecDepth 100000
set_option maxHeartbeats 4000000
set_option Elab.async false
set_option linter.all false
set_option maxRecDepth 100000
set_option maxHeartbeats 4000000
set_option Elab.async false
set_option linter.all false
set_option maxRecDepth 100000
set_option maxHeartbeats 4000000
set_option Elab.async false
set_option linter.all false
set_option maxRecDepth 100000
set_option maxHeartbeats 4000000
set_option Elab.async false
set_option linter.all false
set_option maxRecDepth 100000
set_option maxHeartbeats 4000000
namespace Pd
variable [Pd.Wd]
open PySem PySem.Spec PyProof.Rows L2
def clsB : Stmt → List Stmt
  | .ClassDef (body := b) .. => b
  | _ => []
end Pd
set_option Elab.async false
set_option linter.all false
set_option maxRecDepth 100000
set_option maxHeartbeats 4000000
set_option Elab.async false
set_option linter.all false
set_option maxRecDepth 100000
set_option maxHeartbeats 4000000
set_option Elab.async false
set_option linter.all false
set_option maxRecDepth 100000
set_option maxHeartbeats 4000000
set_option Elab.async false
set_option linter.all false
set_option maxRecDepth 100000
set_option maxHeartbeats 4000000
set_option Elab.async false
set_option linter.all false
set_option maxRecDepth 100000
set_option maxHeartbeats 4000000
set_option Elab.async false
set_option linter.all false
set_option maxRecDepth 100000
set_option maxHeartbeats 4000000
set_option Elab.async false
set_option linter.all false
set_option maxRecDepth 100000
set_option maxHeartbeats 4000000
set_option Elab.async false
set_option linter.all false
set_option maxRecDepth 100000
set_option maxHeartbeats 4000000
set_option Elab.async false
set_option linter.all false
set_option maxRecDepth 100000
set_option maxHeartbeats 4000000
set_option Elab.async false
set_option linter.all false
set_option maxRecDepth 100000
set_option maxHeartbeats 4000000
set_option Elab.async false
set_option linter.all false
set_option maxRecDepth 100000
set_option maxHeartbeats 4000000
set_option Elab.async false
set_option linter.all false
set_option maxRecDepth 100000
set_option maxHeartbeats 4000000
set_option Elab.async false
set_option linter.all false
set_option maxRecDepth 100000
set_option maxHeartbeats 4000000
set_option Elab.async false
set_option linter.all false
set_option maxRecDepth 100000
set_option maxHeartbeats 4000000
set_option Elab.async false
set_option linter.all false
set_option maxRecDepth 100000
set_option maxHeartbeats 4000000
set_option Elab.async false
set_option linter.all false
set_option maxRecDepth 100000
set_option maxHeartbeats 4000000
set_option Elab.async false
set_option linter.all false
set_option maxRecDepth 100000
set_option maxHeartbeats 4000000
set_option Elab.async false
set_option linter.all false
set_option maxRecDepth 100000
set_option maxHeartbeats 4000000
set_option Elab.async false
set_option linter.all false
set_option maxRecDepth 100000
set_option maxHeartbeats 4000000
set_option Elab.async false
set_option linter.all false
set_option maxRecDepth 100000
set_option maxHeartbeats 4000000
set_option Elab.async false
set_option linter.all false
set_option maxRecDepth 100000
set_option maxHeartbeats 4000000
set_option Elab.async false
set_option linter.all false
set_option maxRecDepth 100000
set_option maxHeartbeats 4000000
set_option Elab.async false
set_option linter.all false
set_option maxRecDepth 100000
set_option maxHeartbeats 4000000
set_option Elab.async false
set_option linter.all false
set_option maxRecDepth 100000
set_option maxHeartbeats 4000000
set_option Elab.async false
set_option linter.all false
set_option maxRecDepth 100000
set_option maxHeartbeats 4000000
set_option Elab.async false
set_option linter.all false
set_option maxRecDepth 100000
set_option maxHeartbeats 4000000
set_option Elab.async false
set_option linter.all false
set_option maxRecDepth 100000
set_option maxHeartbeats 4000000
set_option Elab.async false
set_option linter.all false
set_option maxRecDepth 100000
set_option maxHeartbeats 4000000
set_option Elab.async false
set_option linter.all false
set_option maxRecDepth 100000
set_option maxHeartbeats 4000000
set_option Elab.async false
set_option linter.all false
set_option maxRecDepth 100000
set_option maxHeartbeats 4000000
set_option Elab.async false
set_option linter.all false
set_option maxRecDepth 100000
set_option maxHeartbeats 4000000
set_option Elab.async false
set_option linter.all false
set_option maxRecDepth 100000
set_option maxHeartbeats 4000000
set_option Elab.async false
set_option linter.all false
set_option maxRecDepth 100000
set_option maxHeartbeats 4000000
set_option Elab.async false
set_option linter.all false
set_option maxRecDepth 100000
set_option maxHeartbeats 4000000
set_option Elab.async false
set_option linter.all false
set_option maxRecDepth 100000
set_option maxHeartbeats 4000000
set_option Elab.async false
set_option linter.all false
set_option maxRecDepth 100000
set_option maxHeartbeats 4000000
set_option Elab.async false
set_option linter.all false
set_option maxRecDepth 100000
set_option maxHeartbeats 4000000
set_option Elab.async false
set_option linter.all false
set_option maxRecDepth 100000
set_option maxHeartbeats 4000000
set_option Elab.async false
set_option linter.all false
set_option maxRecDepth 100000
set_option maxHeartbeats 4000000
set_option Elab.async false
set_option linter.all false
set_option maxRecDepth 100000
set_option maxHeartbeats 4000000
set_option Elab.async false
set_option linter.all false
set_option maxRecDepth 100000
set_option maxHeartbeats 4000000
set_option Elab.async false
set_option linter.all false
set_option maxRecDepth 100000
set_option maxHeartbeats 4000000
namespace Pd
variable [Pd.Wd]
open PySem PySem.Spec PyProof.Rows L2
def topS (i : Nat) : Stmt := PySem.Challenge.pw_hingehall_k01_halls_refused.main.body.getD i (.Pass ⟨0, 0, 0, 0⟩)
abbrev s_is_number : Stmt := topS 23
abbrev s_is_side : Stmt := topS 24
abbrev s_is_cell : Stmt := topS 25
abbrev s_is_edge : Stmt := topS 26
abbrev s_edge_from : Stmt := topS 27
abbrev s_edge_crossed : Stmt := topS 28
abbrev s_next_cell : Stmt := topS 29
abbrev s_door_edge : Stmt := topS 30
abbrev s_door_edges : Stmt := topS 38
abbrev s_swung_ways : Stmt := topS 43
abbrev s_step_done : Stmt := topS 44
abbrev s_moves_from : Stmt := topS 46
abbrev s_first_standing : Stmt := topS 37
abbrev s_check_edges : Stmt := topS 31
abbrev s_check_hall : Stmt := topS 32
abbrev s_check_cells : Stmt := topS 33
abbrev s_check_start : Stmt := topS 34
abbrev s_may : Stmt := topS 49
abbrev s_best_way : Stmt := topS 83
abbrev s_walk : Stmt := topS 48
abbrev s_paper : Stmt := topS 68
abbrev s_shows : Stmt := topS 71
abbrev s_lifted : Stmt := topS 74
abbrev s_turned : Stmt := topS 80
abbrev s_mirrored : Stmt := topS 81
abbrev s_shortest : Stmt := topS 84
abbrev s_gentlest : Stmt := topS 85
abbrev s_reached : Stmt := topS 87
abbrev s_far : Stmt := topS 88
abbrev s_still : Stmt := topS 89
abbrev s_oneway : Stmt := topS 90
abbrev s_lost : Stmt := topS 91
abbrev s_written : Stmt := topS 56
abbrev s_L_taken : Stmt := topS 93
abbrev s_L_pair : Stmt := topS 95
abbrev s_L_shut : Stmt := topS 96
abbrev s_L_within : Stmt := topS 97
abbrev s_L_hall : Stmt := topS 101
abbrev s_L_odd : Stmt := topS 104
abbrev s_law : Stmt := topS 105
end Pd
set_option Elab.async false
set_option linter.all false
set_option maxRecDepth 100000
set_option maxHeartbeats 4000000
set_option Elab.async false
set_option linter.all false
set_option maxRecDepth 100000
set_option maxHeartbeats 4000000
set_option Elab.async false
set_option linter.all false
set_option maxRecDepth 100000
set_option maxHeartbeats 4000000
set_option Elab.async false
set_option linter.all false
set_option maxRecDepth 100000
set_option maxHeartbeats 4000000
set_option Elab.async false
set_option linter.all false
set_option maxRecDepth 100000
set_option maxHeartbeats 4000000
set_option Elab.async false
set_option linter.all false
set_option maxRecDepth 100000
set_option maxHeartbeats 4000000
set_option Elab.async false
set_option linter.all false
set_option maxRecDepth 100000
set_option maxHeartbeats 4000000
set_option Elab.async false
set_option linter.all false
set_option maxRecDepth 100000
set_option maxHeartbeats 4000000
set_option Elab.async false
set_option linter.all false
set_option maxRecDepth 100000
set_option maxHeartbeats 4000000
set_option Elab.async false
set_option linter.all false
set_option maxRecDepth 100000
set_option maxHeartbeats 4000000
set_option Elab.async false
set_option linter.all false
set_option maxRecDepth 100000
set_option maxHeartbeats 4000000
set_option Elab.async false
set_option linter.all false
set_option maxRecDepth 100000
set_option maxHeartbeats 4000000
set_option Elab.async false
set_option linter.all false
set_option maxRecDepth 100000
set_option maxHeartbeats 4000000
namespace Pd
variable [Pd.Wd]
open PySem PySem.Spec PyProof.Rows L2 Lmp
abbrev s_L_works : Stmt := topS 103
end Pd
set_option Elab.async false
set_option linter.all false
set_option maxRecDepth 100000
set_option maxHeartbeats 4000000
namespace Pd
variable [Pd.Wd]
open PySem PySem.Spec PyProof.Rows L2 NdefX
abbrev s_initH : Stmt := (clsB (topS 5)).getD 0 (.Pass ⟨0, 0, 0, 0⟩)
abbrev s_initC : Stmt := (clsB (topS 6)).getD 0 (.Pass ⟨0, 0, 0, 0⟩)
end Pd
set_option Elab.async false
set_option linter.all false
set_option maxRecDepth 100000
set_option maxHeartbeats 4000000
namespace Pd
variable [Pd.Wd]
open PySem PySem.Spec PyProof.Rows L2
abbrev s_B_init : Stmt := (clsB (topS 54)).getD 0 (.Pass ⟨0, 0, 0, 0⟩)
end Pd
set_option Elab.async false
set_option linter.all false
set_option maxRecDepth 100000
set_option maxHeartbeats 4000000
set_option Elab.async false
set_option linter.all false
set_option maxRecDepth 100000
set_option maxHeartbeats 4000000
set_option Elab.async false
set_option linter.all false
set_option maxRecDepth 100000
set_option maxHeartbeats 4000000
namespace Pd
variable [Pd.Wd]
open PySem PySem.Spec PyProof.Rows L2
abbrev s_L_word : Stmt := topS 94
end Pd
set_option Elab.async false
set_option linter.all false
set_option maxRecDepth 100000
set_option maxHeartbeats 4000000
namespace Pd
variable [Pd.Wd]
open PySem PySem.Spec PyProof.Rows L2
/-- the kinds in the law's turn -/
def KN : List Str := ["BadCells", "BadGoal", "BadStep", "BadPaper", "BadHall", "Halted", "BadText", "BadCount", "TooMany", "Meets", "BadName", "NoPoint"]
end Pd
set_option Elab.async false
set_option linter.all false
set_option maxRecDepth 100000
set_option maxHeartbeats 4000000
set_option Elab.async false
set_option linter.all false
set_option maxRecDepth 100000
set_option maxHeartbeats 4000000
set_option Elab.async false
set_option linter.all false
set_option maxRecDepth 100000
set_option maxHeartbeats 4000000
set_option Elab.async false
set_option linter.all false
set_option maxRecDepth 100000
set_option maxHeartbeats 4000000
set_option Elab.async false
set_option linter.all false
set_option maxRecDepth 100000
set_option maxHeartbeats 4000000
set_option Elab.async false
set_option linter.all false
set_option maxRecDepth 100000
set_option maxHeartbeats 4000000
set_option Elab.async false
set_option linter.all false
set_option maxRecDepth 100000
set_option maxHeartbeats 4000000
set_option Elab.async false
set_option linter.all false
set_option maxRecDepth 100000
set_option maxHeartbeats 4000000
namespace Pd
variable [Pd.Wd]
open PySem PySem.Spec PyProof.Rows L2 LamX
def dOf (x : Str) (st : Stmt) : He.DefD := ⟨(x, none), x, x, defArgs st, defBody st, defScope st, [], []⟩
def dOfM (m q : Str) (st : Stmt) (kw : List (Str × He.Dv)) : He.DefD := ⟨("Bench", some m), m, q, defArgs st, defBody st, defScope st, [], kw⟩
def topDK (x : Str) (st : Stmt) : He.DefD := ⟨(x, none), x, x, defArgs st, defBody st, defScope st, [], [("most", .int 6)]⟩
def topFn : List He.DefD := [dOf "is_number" s_is_number, dOf "is_side" s_is_side, dOf "is_cell" s_is_cell, dOf "is_edge" s_is_edge, dOf "edge_from" s_edge_from, dOf "edge_crossed" s_edge_crossed, dOf "next_cell" s_next_cell, dOf "door_edge" s_door_edge, dOf "check_edges" s_check_edges, dOf "check_hall" s_check_hall, dOf "check_cells" s_check_cells, dOf "check_start" s_check_start, dOf "first_standing" s_first_standing, dOf "door_edges" s_door_edges, dOf "swung_ways" s_swung_ways, dOf "step_done" s_step_done, dOf "moves_from" s_moves_from, dOf "may" s_may, dOf "best_way" s_best_way, dOf "walk" s_walk, dOf "paper" s_paper, dOf "shows" s_shows, dOf "turned" s_turned, dOf "mirrored" s_mirrored, dOf "shortest" s_shortest, dOf "gentlest" s_gentlest, dOf "reached" s_reached, dOf "far" s_far, dOf "still" s_still, dOf "oneway" s_oneway, dOf "lost" s_lost, dOf "written" s_written, dOf "_law_taken" s_L_taken, dOf "_law_pair" s_L_pair, dOf "_law_shut" s_L_shut, dOf "_law_within" s_L_within, dOf "_law_hall" s_L_hall, dOf "_law_odd" s_L_odd, dOf "law" s_law, dOf "_law_works" s_L_works, dOf "_law_word" s_L_word, topDK "lifted" s_lifted, dOfM "__init__" "Bench.__init__" s_B_init []]
def topFa : List He.Fa := [.glo "is_number", .glo "is_side", .glo "is_cell", .glo "is_edge", .glo "edge_from", .glo "edge_crossed", .glo "next_cell", .glo "door_edge", .glo "check_edges", .glo "check_hall", .glo "check_cells", .glo "check_start", .glo "first_standing", .glo "door_edges", .glo "swung_ways", .glo "step_done", .glo "moves_from", .glo "may", .glo "best_way", .glo "walk", .glo "paper", .glo "shows", .glo "turned", .glo "mirrored", .glo "shortest", .glo "gentlest", .glo "reached", .glo "far", .glo "still", .glo "oneway", .glo "lost", .glo "written", .glo "_law_taken", .glo "_law_pair", .glo "_law_shut", .glo "_law_within", .glo "_law_hall", .glo "_law_odd", .glo "law", .glo "_law_works", .glo "_law_word", .glo "lifted", .free "bool", .free "enumerate", .free "int", .free "isinstance", .free "len", .free "list", .free "max", .free "min", .free "range", .free "sorted", .free "str", .free "tuple", .free "zip", .free "ValueError", .free "super", .int "MOST_SIDE" 5, .int "MOST_WALLS" 24, .int "MOST_DOORS" 6, .int "MOST_WALKERS" 3, .int "LONGEST_NAME" 8, .int "MOST_STANDINGS" 4000, .glo "WAYS", .glo "WAYS_TURNED", .glo "WAYS_MIRRORED", .glo "HallError", .glo "Bench", .mkr "Bench", .glo "BadCells", .glo "BadCount", .glo "BadGoal", .glo "BadHall", .glo "BadName", .glo "BadPaper", .glo "BadStep", .glo "BadText", .glo "Halted", .glo "Meets", .glo "NoPoint", .glo "TooMany", .noat "BadHall" "done", .noat "BadHall" "number", .noat "BadHall" "part", .noat "BadHall" "row", .noat "BadCells" "done", .noat "BadCells" "number", .noat "BadCells" "part", .noat "BadCells" "row", .str "LETTERS" "abcdefghijklmnopqrstuvwxyz"]
def eqB (a b : Option Bool) : Bool := decide (a = b)
/-- what the error's class is, of the written part -/
def excB (K : PySem.W.Frag) (C CH : Addr) : Bool :=
  (match K.lookup C with
    | some ⟨.type t, _, .cls cd, sl⟩ => decide (t = "type") && (match cd.mro, sl.toList with
      | .ref C' :: bm, [_, _, _, _, some (.builtin n), _] => decide (C' = C) && (decide (n = "ValueError.__new__") && (!cd.hasDel && (cd.hasDict && PySem.HandSPX.refsVE bm)))
      | _, _ => false)
    | _ => false) && (He.eqO (PySem.W.findIn K (.ref C) "__setattr__") (some (some (.builtin "object.__setattr__"))) && (eqB (PySem.W.subIn K (.ref C) (.type "BaseException")) (some true) &&
  (decide (PySem.W.typeIn K (.ref C) = some (.type "type")) && (PySem.W.keepIn K (.ref C) && (xfB K C && (He.eqO (PySem.W.findIn K (.ref C) "__class__") (some (some (.builtin "object.__class__"))) &&
  (He.eqO (PySem.W.specialIn K (.builtin "object.__class__") "__get__") (some (some (.builtin "getset_descriptor.__get__"))) && (eqB (PySem.W.takesIn K (.builtin "object.__class__")) (some true) && (eqB (PySem.W.mroIn K C (.type "object")) (some true) &&
  (eqB (PySem.W.exmOne K (.ref C) (.ref CH)) (some true) && eqB (PySem.W.kitOne K (.ref C) (.type "ValueError")) (some true)))))))))))
def kindB (K : PySem.W.Frag) (C : Addr) (i : Nat) : Bool := KN.zipIdx.all fun p => eqB (PySem.W.kitOne K (.ref C) (.ref (He.ga K p.1))) (some (decide (p.2 = i)))
def iAt (K : PySem.W.Frag) (nm : Str) : Addr := He.ma K (He.ga K nm) "__init__"
def fdIn (K : PySem.W.Frag) (f : Addr) : Option FuncData := match K.lookup f with
  | some ⟨_, _, .func fd, _⟩ => some fd
  | _ => none
def cellAt (K : PySem.W.Frag) (nm : Str) : Addr := match fdIn K (iAt K nm) with
  | some fd => (match fd.closure with
    | [(_, a)] => a
    | _ => 0)
  | _ => 0
def codeAt (K : PySem.W.Frag) (f : Addr) : Addr := match fdIn K f with
  | some fd => (match fd.code with
    | .ref a => a
    | _ => 0)
  | _ => 0
def initW (K : PySem.W.Frag) (nm : Str) : Option (Str × Str × Arguments × FuncBody × Scope × Addr × List (Str × Addr) × Addr × Value × Value) := (fdIn K (iAt K nm)).map fun fd => (fd.name, fd.qualname, fd.params, fd.body, fd.scope, fd.globals, fd.closure, fd.builtins, fd.defaults, fd.code)
def initB (file : Str) (K : PySem.W.Frag) (nm q : Str) (C : Addr) : Bool :=
  He.eqO (PySem.W.findIn K (.ref C) "__init__") (some (some (.ref (iAt K nm)))) && (decide (PySem.W.typeIn K (.ref (iAt K nm)) = some (.type "function")) && (PySem.W.codeIn K (.ref (codeAt K (iAt K nm))) q &&
  ((match K.lookup (codeAt K (iAt K nm)) with
    | some ⟨_, _, .fields vs, _⟩ => (match (vs[2]? : Option Value) with
      | some (.str f _) => file == f
      | _ => false)
    | _ => false) && ((match K.lookup (cellAt K nm) with
    | some ⟨_, _, .cell (some (.ref C')), _⟩ => decide (C' = C)
    | _ => false) && ((PySem.W.clsIn K C).isSome && (eqB (PySem.W.mroIn K C (.ref C)) (some true) && (He.eqO (PySem.W.ks_superIn K C C "__init__") (some (some (.builtin "ValueError.__init__"))) &&
  (He.eqO (PySem.W.nsIn K cStatics "thirdparty.any") (some none) && eqB (PySem.W.subIn K (.ref C) (.type "ValueError")) (some true)))))))))
/-- a def's own code object and its table -/
def codeOf (K : PySem.W.Frag) (x : Str) : Addr × Addr := match PySem.W.tabIn K x with
  | some p => p
  | none => (0, 0)
def codeB (K : PySem.W.Frag) (x : Str) : Bool := (PySem.W.tabIn K x).isSome && (PySem.W.codeHdIn K (codeOf K x).1 (codeOf K x).2 && (K.lookup (codeOf K x).2).isNone)
end Pd
set_option Elab.async false
set_option linter.all false
set_option maxRecDepth 100000
set_option maxHeartbeats 0
namespace Pd
open PySem PySem.Spec PyProof.Rows L2 LamX
abbrev RR : PySem.W.OpenRow := PySem.W.OpenLaw.row PySem.Challenge.rw_hingehall_k01_halls_refused
def qv : Program := PySem.W.view RR.prog [0, 1, 103, 105]
def loose : List Str := (RR.prog.main.scope.names.map (·.1)).filter fun x => !(x == ("law" : Str) || x == ("_law_works" : Str))
abbrev Iw : Type := Option (Str × Str × Arguments × FuncBody × Scope × Bool)
def obsI (K : PySem.W.Frag) (nm : Str) : Iw := (initW K nm).map fun t => (t.1, t.2.1, t.2.2.1, t.2.2.2.1, t.2.2.2.2.1, decide (t.2.2.2.2.2.1 = mainGlobals) && (decide (t.2.2.2.2.2.2.1 = [(("__class__" : Str), cellAt K nm)]) && (decide (t.2.2.2.2.2.2.2.1 = builtinsNs) && (decide (t.2.2.2.2.2.2.2.2.1 = .none) && decide (t.2.2.2.2.2.2.2.2.2 = .ref (codeAt K (iAt K nm)))))))
def valI (q : Str) (st : Stmt) : Iw := some ("__init__", q, defArgs st, .stmts (defBody st), defScope st, true)
abbrev AlQ : Type := He.AlD × (Iw × Iw) × Bool
/-- what is looked at -/
def obsM (K : PySem.W.Frag) : (Iw × Iw) × Bool := ((obsI K "BadHall", obsI K "BadCells"),
  He.tupB K "WAYS" [.str "e", .str "n", .str "s", .str "w"] && (excB K (He.ga K "BadHall") (He.ga K "HallError") && (kindB K (He.ga K "BadHall") 4 && (initB RR.prog.main.file K "BadHall" "BadHall.__init__" (He.ga K "BadHall") &&
  (excB K (He.ga K "BadCells") (He.ga K "HallError") && (kindB K (He.ga K "BadCells") 0 && (initB RR.prog.main.file K "BadCells" "BadCells.__init__" (He.ga K "BadCells") &&
  (codeB K "law" && (codeB K "_law_works" && decide ((codeOf K "law").2 ≠ (codeOf K "_law_works").2))))))))))
def valQ : AlQ := (He.valD topFn, (valI "BadHall.__init__" s_initH, valI "BadCells.__init__" s_initC), true)
/-- the state ahead of the top, the state behind it -/
noncomputable def atEnd (w : World) : Option (Shared × PySem.W.SharedT) := HandSHeadRun.wholeF (fun p => HandSHeadRun.stepQ (HandSHeadRun.denQ HandSHeadRun.tabQ) p w) HandSHeadRun.fenceQ 20000 RR.prog
def LooksA (w : World) : Prop := (atEnd w).map (fun x => HandSHeadRun.looksF RR.prog x.1.heap x.2.abs) = some true
def LooksC (w : World) : Prop := (atEnd w).map (fun x => HandSHeadRun.seenQ qv loose (importedModules RR.prog.main.body) (fun s => PySem.W.xlAt qv [] s && PySem.W.recOk RR.toRowW.records s) x.2.abs) = some (PySem.W.openGood qv loose)
def LooksB (w : World) : Prop := (atEnd w).map (fun x => He.obsD topFa topFn (He.frT (HandSHeadRun.getT x.2) (List.range 900))) = some (He.valD topFn)
def LooksD (w : World) : Prop := (atEnd w).map (fun x => obsM (He.frT (HandSHeadRun.getT x.2) (List.range 900))) = some valQ.2
theorem runA0 (w : World) : LooksA (w.withFollow "special-get-raises" false) := by
  unfold LooksA
  kernel_rfl
theorem runA1 (w : World) : LooksA (w.withFollow "special-get-raises" true) := by
  unfold LooksA
  kernel_rfl
theorem runC0 (w : World) : LooksC (w.withFollow "special-get-raises" false) := by
  unfold LooksC
  kernel_rfl
theorem runC1 (w : World) : LooksC (w.withFollow "special-get-raises" true) := by
  unfold LooksC
  kernel_rfl
theorem runB0 (w : World) : LooksB (w.withFollow "special-get-raises" false) := by
  unfold LooksB
  kernel_rfl
theorem runB1 (w : World) : LooksB (w.withFollow "special-get-raises" true) := by
  unfold LooksB
  kernel_rfl
theorem runD0 (w : World) : LooksD (w.withFollow "special-get-raises" false) := by
  unfold LooksD
  kernel_rfl
theorem runD1 (w : World) : LooksD (w.withFollow "special-get-raises" true) := by
  unfold LooksD
  kernel_rfl
end Pd
open PySem PySem.W PySem.Calls PyProof.Rows
/-! PdA -/
set_option Elab.async false
set_option linter.all false
set_option maxRecDepth 100000
set_option maxHeartbeats 4000000
/-! Pure data: what expressions evaluate to, told over PyData, the heap only growing (a base heap of pure data, owned lists beside it). -/
namespace Pd
open PySem PySem.Spec PyProof.Rows L2

def Ex (H H' : Hp) : Prop := ∀ a o, H a = some o → H' a = some o
theorem Ex.refl (H : Hp) : Ex H H := fun _ _ h => h
theorem Ex.trans {H H1 H2 : Hp} (a : Ex H H1) (b : Ex H1 H2) : Ex H H2 := fun x o h => b x o (a x o h)
theorem Ex.new {H : Hp} {p : Addr} {o : HO} (h : H p = none) : Ex H (upd H p o) := fun a u e => by
  rw [upd_ne (ne_of_none e h)]
  exact e
theorem Ex.mut {H H' : Hp} {p : Addr} {o : HO} (e : Ex H H') (h : H p = none) : Ex H (upd H' p o) := fun a u ha => by
  rw [upd_ne (ne_of_none ha h)]
  exact e a u ha
theorem Ex.nil {H H' : Hp} {p : Addr} (e : Ex H H') (h : H' p = none) : H p = none := by
  cases h1 : H p with
  | none => rfl
  | some o =>
    rw [e p o h1] at h
    cases h
theorem Ex.nn {H H' : Hp} {p : Addr} (e : Ex H H') (h : H p ≠ none) : H' p ≠ none := fun z => h (Ex.nil e z)
theorem Ex.upd2 {H H' : Hp} {p : Addr} {o : HO} (e : Ex H H') : Ex (upd H p o) (upd H' p o) := fun a u ha => by
  by_cases h : a = p
  · subst h
    rw [upd_same] at ha ⊢
    exact ha
  · rw [upd_ne h] at ha ⊢
    exact e a u ha
theorem Ex.seqL {K : PySem.W.Frag} {H H' : Hp} {a : Addr} {xs : List V} (e : Ex H H') (h : SqL K H a xs) : SqL K H' a xs := by
  rcases h with (h | ⟨o, h⟩) | h
  · exact .inl (.inl (e _ _ h))
  · exact .inl (.inr ⟨o, e _ _ h⟩)
  · exact .inr h

/-- an entry of a dict: the key, what stands for it, the value -/
abbrev NE := NestedKey × V × V
variable [Wd]
/-- what the object of a dict is -/
structure DFact (a : Addr) (o : Obj) (es : List NE) : Prop where
  sm : (a == sysModules) = false
  ex : o.ExactDict
  len : es.length ≤ 100000
  nd : (es.map (·.1)).Nodup
  dat : ∃ (E : Array DictEntry) (ep : Nat) (xs : List (Value × Value)), o.data = .dict E ep ∧ Paired (fun (p : NE) (q : Value × Value) => RelV p.2.1 q.1 ∧ RelV p.2.2 q.2) es xs ∧ E.toList = (es.zip xs).map fun z => ⟨z.1.1.hash Wd.w, z.2.1, z.2.2⟩
/-- the dict at a is o -/
def DNo (a : Addr) (o : Obj) (es : List NE) : HO := .ext fun h => h.get? a = some o ∧ DFact a o es
mutual
inductive DH (H : Hp) : V → PyData → Prop
  | non : DH H .non .none
  | bl (b : Bool) : DH H (.bl b) (.bool b)
  | int (i : Int) : DH H (.int i) (.int i)
  | str (x : Str) : DH H (.str x) (.str x)
  | lst {a : Addr} {xs : List V} {ds : List PyData} : H a = some (.lst xs) → DHs H xs ds → DH H (.ref a) (.list ds)
  | tup {a : Addr} {xs : List V} {ds : List PyData} : H a = some (.tup xs) → DHs H xs ds → DH H (.ref a) (.tuple ds)
  | dct {a : Addr} {o : Obj} {es : List NE} {kvs : List (PyData × PyData)} : H a = some (DNo a o es) → DHk H es kvs → DH H (.ref a) (.dict kvs)
inductive DHs (H : Hp) : List V → List PyData → Prop
  | nil : DHs H [] []
  | cons {v : V} {vs : List V} {d : PyData} {ds : List PyData} : DH H v d → DHs H vs ds → DHs H (v :: vs) (d :: ds)
inductive DHk (H : Hp) : List NE → List (PyData × PyData) → Prop
  | nil : DHk H [] []
  | cons {k : NestedKey} {u v : V} {es : List NE} {kd d : PyData} {kvs : List (PyData × PyData)} : k.depth ≤ 8 → kd = k.data → DH H u kd → DH H v d → DHk H es kvs → DHk H ((k, u, v) :: es) ((kd, d) :: kvs)
end
mutual
theorem DH.mono {H H' : Hp} (e : Ex H H') : ∀ {v : V} {d : PyData}, DH H v d → DH H' v d
  | _, _, .non => .non
  | _, _, .bl b => .bl b
  | _, _, .int i => .int i
  | _, _, .str x => .str x
  | _, _, .lst h r => .lst (e _ _ h) (DHs.mono e r)
  | _, _, .tup h r => .tup (e _ _ h) (DHs.mono e r)
  | _, _, .dct h r => .dct (e _ _ h) (DHk.mono e r)
theorem DHs.mono {H H' : Hp} (e : Ex H H') : ∀ {vs : List V} {ds : List PyData}, DHs H vs ds → DHs H' vs ds
  | _, _, .nil => .nil
  | _, _, .cons h r => .cons (DH.mono e h) (DHs.mono e r)
theorem DHk.mono {H H' : Hp} (e : Ex H H') : ∀ {es : List NE} {kvs : List (PyData × PyData)}, DHk H es kvs → DHk H' es kvs
  | _, _, .nil => .nil
  | _, _, .cons h1 h2 a b r => .cons h1 h2 (DH.mono e a) (DH.mono e b) (DHk.mono e r)
end
theorem canLay_cons {d : PyData} {ds : List PyData} (h : PyData.canLayAll0 (d :: ds) = true) : d.canLay0 = true ∧ PyData.canLayAll0 ds = true := by
  simpa [PyData.canLayAll0] using h
mutual
theorem DH.dp {K : PySem.W.Frag} {H : Hp} : ∀ {v : V} {d : PyData}, DH H v d → d.canLay0 = true → Dp K H v d
  | _, _, .non, _ => .non
  | _, _, .bl b, _ => .bl b
  | _, _, .int i, _ => .int i
  | _, _, .str x, _ => .str x
  | _, _, .lst h r, s => .lst (SqL.of h) (DHs.dp r (by simpa [PyData.canLay0] using s))
  | _, _, .tup h r, s => .tup (SqT.of h) (DHs.dp r (by simpa [PyData.canLay0] using s))
  | _, _, .dct _ _, s => by simp [PyData.canLay0] at s
theorem DHs.dp {K : PySem.W.Frag} {H : Hp} : ∀ {vs : List V} {ds : List PyData}, DHs H vs ds → PyData.canLayAll0 ds = true → DpAll K H vs ds
  | _, _, .nil, _ => .nil
  | _, _, .cons h r, s => .cons (DH.dp h (canLay_cons s).1) (DHs.dp r (canLay_cons s).2)
end
theorem DHs.length {H : Hp} : ∀ {vs : List V} {ds : List PyData}, DHs H vs ds → vs.length = ds.length
  | _, _, .nil => rfl
  | _, _, .cons _ r => by rw [List.length_cons, List.length_cons, DHs.length r]
theorem DHs.get {H : Hp} : ∀ {vs : List V} {ds : List PyData} {i : Nat} {d : PyData}, DHs H vs ds → ds[i]? = some d → ∃ v, vs[i]? = some v ∧ DH H v d
  | _, _, _, _, .nil, e => by simp at e
  | _, _, 0, _, .cons h _, e => by
    simp at e
    subst e
    exact ⟨_, rfl, h⟩
  | _, _, i + 1, _, .cons _ r, e => by
    obtain ⟨v, h1, h2⟩ := DHs.get (i := i) r (by simpa using e)
    exact ⟨v, by simpa using h1, h2⟩
theorem DHs.append {H : Hp} : ∀ {vs ws : List V} {ds es : List PyData}, DHs H vs ds → DHs H ws es → DHs H (vs ++ ws) (ds ++ es)
  | _, _, _, _, .nil, s => s
  | _, _, _, _, .cons h r, s => .cons h (DHs.append r s)
theorem DHs.take {H : Hp} : ∀ {vs : List V} {ds : List PyData} (n : Nat), DHs H vs ds → DHs H (vs.take n) (ds.take n)
  | _, _, 0, _ => .nil
  | _, _, _ + 1, .nil => .nil
  | _, _, n + 1, .cons h r => .cons h (DHs.take n r)
theorem DHs.drop {H : Hp} : ∀ {vs : List V} {ds : List PyData} (n : Nat), DHs H vs ds → DHs H (vs.drop n) (ds.drop n)
  | _, _, 0, r => r
  | _, _, _ + 1, .nil => .nil
  | _, _, n + 1, .cons _ r => DHs.drop n r
theorem DHs.one {H : Hp} {v : V} {d : PyData} (h : DH H v d) : DHs H [v] [d] := .cons h .nil
theorem DHs.erase {H : Hp} : ∀ {vs : List V} {ds : List PyData} (n : Nat), DHs H vs ds → DHs H (vs.eraseIdx n) (ds.eraseIdx n)
  | _, _, _, .nil => by simpa using DHs.nil
  | _, _, 0, .cons h r => r
  | _, _, n + 1, .cons h r => .cons h (DHs.erase n r)
theorem DHs.strs {H : Hp} : ∀ {vs : List V} {zs : List Str}, DHs H vs (zs.map PyData.str) → vs = zs.map V.str
  | _, [], h => by cases h; rfl
  | _, z :: zs, h => by
    cases h with
    | cons a r =>
      cases a
      rw [DHs.strs r]
      rfl

/-- the base grows, the heap grows, what was beside the base stays beside it -/
structure Gr (B H B' H' : Hp) : Prop where
  b : Ex B B'
  t : Ex B' H'
  h : Ex H H'
  n : ∀ a, B a = none → H a ≠ none → B' a = none
theorem Gr.refl {B H : Hp} (e : Ex B H) : Gr B H B H := ⟨Ex.refl B, e, Ex.refl H, fun _ h _ => h⟩
theorem Gr.trans {B H B1 H1 B2 H2 : Hp} (a : Gr B H B1 H1) (b : Gr B1 H1 B2 H2) : Gr B H B2 H2 :=
  ⟨a.b.trans b.b, b.t, a.h.trans b.h, fun x h1 h2 => b.n x (a.n x h1 h2) (Ex.nn a.h h2)⟩
/-- a new object, into the base -/
theorem Gr.new {B H : Hp} {p : Addr} {o : HO} (e : Ex B H) (h : H p = none) : Gr B H (upd B p o) (upd H p o) :=
  ⟨Ex.new (e.nil h), e.upd2, Ex.new h, fun a h1 h2 => by
    have q : a ≠ p := fun z => h2 (by rw [z]; exact h)
    rw [upd_ne q]
    exact h1⟩
/-- a new object, beside the base -/
theorem Gr.own {B H : Hp} {p : Addr} {o : HO} (e : Ex B H) (h : H p = none) : Gr B H B (upd H p o) :=
  ⟨Ex.refl B, e.mut (e.nil h), Ex.new h, fun a h1 _ => h1⟩

abbrev Rho := List (Option PyData)
/-- the slots hold the data told -/
structure EnvD (σ : L2.St) (B : Hp) (ρ : Rho) : Prop where
  len : σ.length = ρ.length
  get : ∀ (i : Nat) (d : PyData), ρ[i]? = some (some d) → ∃ v, σ[i]? = some (some v) ∧ DH B v d
theorem EnvD.mono {σ : L2.St} {B B' : Hp} {ρ : Rho} (e : Ex B B') (h : EnvD σ B ρ) : EnvD σ B' ρ :=
  ⟨h.len, fun i d q => let ⟨v, a, b⟩ := h.get i d q; ⟨v, a, b.mono e⟩⟩
theorem EnvD.set {σ : L2.St} {B : Hp} {ρ : Rho} {v : V} {d : PyData} (i : Nat) (h : EnvD σ B ρ) (hd : DH B v d) : EnvD (σ.set i (some v)) B (ρ.set i (some d)) := by
  refine ⟨by rw [List.length_set, List.length_set]; exact h.len, fun j e q => ?_⟩
  by_cases hj : i = j
  · subst hj
    by_cases hl : i < ρ.length
    · rw [List.getElem?_set_self hl] at q
      cases q
      exact ⟨v, List.getElem?_set_self (by rw [h.len]; exact hl), hd⟩
    · rw [List.getElem?_eq_none (by rw [List.length_set]; omega)] at q
      cases q
  · rw [List.getElem?_set_ne hj] at q ⊢
    exact h.get j e q
/-- a slot's data forgotten -/
theorem EnvD.forget {σ : L2.St} {B : Hp} {ρ : Rho} (i : Nat) (o : Option V) (h : EnvD σ B ρ) : EnvD (σ.set i o) B (ρ.set i none) := by
  refine ⟨by rw [List.length_set, List.length_set]; exact h.len, fun j e q => ?_⟩
  by_cases hj : i = j
  · subst hj
    by_cases hl : i < ρ.length
    · rw [List.getElem?_set_self hl] at q
      cases q
    · rw [List.getElem?_eq_none (by rw [List.length_set]; omega)] at q
      cases q
  · rw [List.getElem?_set_ne hj] at q ⊢
    exact h.get j e q
theorem EnvD.drop {σ : L2.St} {B : Hp} {ρ : Rho} (i : Nat) (h : EnvD σ B ρ) : EnvD σ B (ρ.set i none) := by
  refine ⟨by rw [List.length_set]; exact h.len, fun j e q => ?_⟩
  by_cases hj : i = j
  · subst hj
    by_cases hl : i < ρ.length
    · rw [List.getElem?_set_self hl] at q
      cases q
    · rw [List.getElem?_eq_none (by rw [List.length_set]; omega)] at q
      cases q
  · rw [List.getElem?_set_ne hj] at q
    exact h.get j e q
/-- told anew -/
theorem EnvD.tell {σ : L2.St} {B : Hp} {ρ : Rho} {v : V} {d : PyData} (i : Nat) (h : EnvD σ B ρ) (hv : σ[i]? = some (some v)) (hd : DH B v d) : EnvD σ B (ρ.set i (some d)) := by
  refine ⟨by rw [List.length_set]; exact h.len, fun j e q => ?_⟩
  by_cases hj : i = j
  · subst hj
    by_cases hl : i < ρ.length
    · rw [List.getElem?_set_self hl] at q
      cases q
      exact ⟨v, hv, hd⟩
    · rw [List.getElem?_eq_none (by rw [List.length_set]; omega)] at q
      cases q
  · rw [List.getElem?_set_ne hj] at q
    exact h.get j e q
def wipeR (ρ : Rho) : List Nat → Rho
  | [] => ρ
  | v :: vs => (wipeR ρ vs).set v none
theorem EnvD.wipe {σ : L2.St} {B : Hp} {ρ : Rho} (h : EnvD σ B ρ) : ∀ vs : List Nat, EnvD (L2.wipe σ vs) B (wipeR ρ vs)
  | [] => h
  | v :: vs => (EnvD.wipe h vs).forget v none
theorem env_start {N : List Str} {vs : List V} {B : Hp} {ds : List PyData} (h : DHs B vs ds) (hl : vs.length ≤ N.length) : EnvD (L2.start N vs) B (ds.map some ++ List.replicate (N.length - ds.length) none) := by
  have e := h.length
  refine ⟨by simp [L2.start, e], fun i d q => ?_⟩
  unfold L2.start
  by_cases hi : i < ds.length
  · rw [List.getElem?_append_left (by rw [List.length_map]; exact hi), List.getElem?_map] at q
    cases hd : ds[i]? with
    | none => rw [hd] at q; simp at q
    | some u =>
      rw [hd] at q
      simp at q
      subst q
      obtain ⟨v, h1, h2⟩ := h.get hd
      refine ⟨v, ?_, h2⟩
      rw [List.getElem?_append_left (by rw [List.length_map]; omega), List.getElem?_map, h1]
      rfl
  · rw [List.getElem?_append_right (by rw [List.length_map]; omega)] at q
    rw [List.getElem?_replicate] at q
    split at q
    · cases q
    · cases q

/-! ### the judgements -/
def ED (te : TE) (ρ : Rho) (d : PyData) : Prop := ∀ σ B H, Ex B H → EnvD σ B ρ → ∀ Q : VK, (∀ v B' H', Gr B H B' H' → DH B' v d → Q v H') → te σ H Q
def ET (tt : TT) (ρ : Rho) (b : Bool) : Prop := ∀ σ B H, Ex B H → EnvD σ B ρ → ∀ Q : Bool → Hp → Prop, (∀ B' H', Gr B H B' H' → Q b H') → tt σ H Q
def EA (ta : TA) (ρ : Rho) (ds : List PyData) : Prop := ∀ σ B H, Ex B H → EnvD σ B ρ → ∀ Q : List V → Hp → Prop, (∀ vs B' H', Gr B H B' H' → DHs B' vs ds → Q vs H') → ta σ H Q
def EO (to : TO) (ρ : Rho) (o : Option Int) : Prop := ∀ σ B H, Ex B H → EnvD σ B ρ → ∀ Q : Option Int → Hp → Prop, (∀ B' H', Gr B H B' H' → Q o H') → to σ H Q
def RD2 (r : R2) (d e z : PyData) : Prop := ∀ B H x y, Ex B H → DH B x d → DH B y e → ∀ Q : VK, (∀ v B' H', Gr B H B' H' → DH B' v z → Q v H') → r x y H Q
def RC (r : List V → Hp → VK → Prop) (ds : List PyData) (z : PyData) : Prop := ∀ B H vs, Ex B H → DHs B vs ds → ∀ Q : VK, (∀ v B' H', Gr B H B' H' → DH B' v z → Q v H') → r vs H Q

section
variable {K : PySem.W.Frag} {ρ : Rho} {ta tb tc te : TE} {t u : TT} {d e z : PyData} {r : R2}
theorem ed_var {i : Nat} (h : ρ[i]? = some (some d)) : ED (tVar i) ρ d := fun σ B H e ev Q q => by
  obtain ⟨v, h1, h2⟩ := ev.get i d h
  exact ⟨v, h1, q v B H (Gr.refl e) h2⟩
theorem ed_int {i : Int} : ED (tC (.int i)) ρ (.int i) := fun σ B H e ev Q q => q _ B H (Gr.refl e) (.int i)
theorem ed_str {x : Str} : ED (tC (.str x)) ρ (.str x) := fun σ B H e ev Q q => q _ B H (Gr.refl e) (.str x)
theorem ed_bl {b : Bool} : ED (tC (.bl b)) ρ (.bool b) := fun σ B H e ev Q q => q _ B H (Gr.refl e) (.bl b)
theorem ed_non : ED (tC .non) ρ .none := fun σ B H e ev Q q => q _ B H (Gr.refl e) .non
theorem ED.is {d' : PyData} (h : ED te ρ d) (e : d = d') : ED te ρ d' := e ▸ h
theorem ET.is {b b' : Bool} (h : ET t ρ b) (e : b = b') : ET t ρ b' := e ▸ h
theorem ed_op (ha : ED ta ρ d) (hb : ED tb ρ e) (hr : RD2 r d e z) : ED (tOp r ta tb) ρ z := fun σ B H ex ev Q q => by
  refine ha σ B H ex ev _ fun x B1 H1 g1 d1 => ?_
  refine hb σ B1 H1 g1.t (ev.mono g1.b) _ fun y B2 H2 g2 d2 => ?_
  exact hr B2 H2 x y g2.t (d1.mono g2.b) d2 Q fun v B' H' g3 d3 => q v B' H' ((g1.trans g2).trans g3) d3
theorem ea_nil : EA tNil ρ [] := fun σ B H ex ev Q q => q [] B H (Gr.refl ex) .nil
theorem ea_cons {tr : TA} {ds : List PyData} (h : ED ta ρ d) (hr : EA tr ρ ds) : EA (tCons ta tr) ρ (d :: ds) := fun σ B H ex ev Q q => by
  refine h σ B H ex ev _ fun x B1 H1 g1 d1 => ?_
  refine hr σ B1 H1 g1.t (ev.mono g1.b) _ fun xs B2 H2 g2 d2 => ?_
  exact q (x :: xs) B2 H2 (g1.trans g2) (.cons (d1.mono g2.b) d2)
theorem ed_tup {ta : TA} {ds : List PyData} (h : EA ta ρ ds) (hl : ds.length ≤ 100000) : ED (tTup ta) ρ (.tuple ds) := fun σ B H ex ev Q q => by
  refine h σ B H ex ev _ fun xs B1 H1 g1 d1 => ⟨?_, fun p hp => ?_⟩
  · rw [d1.length]
    exact Nat.le_trans hl (by decide)
  · have g2 := Gr.new (o := .tup xs) g1.t hp
    exact q _ _ _ (g1.trans g2) (.tup upd_same (d1.mono g2.b))
theorem ed_lst {ta : TA} {ds : List PyData} (h : EA ta ρ ds) (hl : ds.length ≤ 100000) : ED (tLst ta) ρ (.list ds) := fun σ B H ex ev Q q => by
  refine h σ B H ex ev _ fun xs B1 H1 g1 d1 => ⟨?_, fun p hp => ?_⟩
  · rw [d1.length]
    exact Nat.le_trans hl (by decide)
  · have g2 := Gr.new (o := .lst xs) g1.t hp
    exact q _ _ _ (g1.trans g2) (.lst upd_same (d1.mono g2.b))
theorem ed_cb {r : List V → Hp → VK → Prop} {ta : TA} {ds : List PyData} (h : EA ta ρ ds) (hr : RC r ds z) : ED (tCB r ta) ρ z := fun σ B H ex ev Q q => by
  refine h σ B H ex ev _ fun xs B1 H1 g1 d1 => ?_
  exact hr B1 H1 xs g1.t d1 Q fun v B' H' g3 d3 => q v B' H' (g1.trans g3) d3
theorem ed_if {b : Bool} (h : ET t ρ b) (h1 : b = true → ED ta ρ d) (h2 : b = false → ED tb ρ d) : ED (tIf t ta tb) ρ d := fun σ B H ex ev Q q => by
  refine h σ B H ex ev _ fun B1 H1 g1 => ?_
  cases b with
  | true => exact h1 rfl σ B1 H1 g1.t (ev.mono g1.b) Q fun v B' H' g3 d3 => q v B' H' (g1.trans g3) d3
  | false => exact h2 rfl σ B1 H1 g1.t (ev.mono g1.b) Q fun v B' H' g3 d3 => q v B' H' (g1.trans g3) d3
theorem et_test {b : Bool} (h : ED te ρ (.bool b)) : ET (tTest te) ρ b := fun σ B H ex ev Q q => by
  refine h σ B H ex ev _ fun v B1 H1 g1 d1 => ?_
  cases d1
  exact ⟨b, rfl, q B1 H1 g1⟩
theorem et_B {b : Bool} (h : ED te ρ (.bool b)) : ET (tB te) ρ b := et_test h
theorem et_and {a b : Bool} (h1 : ET t ρ a) (h2 : a = true → ET u ρ b) : ET (tAnd t u) ρ (a && b) := fun σ B H ex ev Q q => by
  refine h1 σ B H ex ev _ fun B1 H1 g1 => ?_
  cases a with
  | true => exact h2 rfl σ B1 H1 g1.t (ev.mono g1.b) Q fun B' H' g3 => q B' H' (g1.trans g3)
  | false => exact q B1 H1 g1
theorem et_or {a b : Bool} (h1 : ET t ρ a) (h2 : a = false → ET u ρ b) : ET (tOr t u) ρ (a || b) := fun σ B H ex ev Q q => by
  refine h1 σ B H ex ev _ fun B1 H1 g1 => ?_
  cases a with
  | true => exact q B1 H1 g1
  | false => exact h2 rfl σ B1 H1 g1.t (ev.mono g1.b) Q fun B' H' g3 => q B' H' (g1.trans g3)
theorem et_not {a : Bool} (h : ET t ρ a) : ET (tNot t) ρ (!a) := fun σ B H ex ev Q q => h σ B H ex ev _ fun B1 H1 g1 => q B1 H1 g1
theorem et_yes : ET tYes ρ true := fun σ B H ex ev Q q => q B H (Gr.refl ex)
theorem ed_andV {a b : Bool} (h1 : ED ta ρ (.bool a)) (h2 : a = true → ED tb ρ (.bool b)) : ED (tAndV ta tb) ρ (.bool (a && b)) := fun σ B H ex ev Q q => by
  refine h1 σ B H ex ev _ fun v B1 H1 g1 d1 => ?_
  cases d1
  refine ⟨a, rfl, ?_⟩
  cases a with
  | true => exact h2 rfl σ B1 H1 g1.t (ev.mono g1.b) Q fun v B' H' g3 d3 => q v B' H' (g1.trans g3) d3
  | false => exact q _ B1 H1 g1 (.bl false)
theorem ed_orV {a b : Bool} (h1 : ED ta ρ (.bool a)) (h2 : a = false → ED tb ρ (.bool b)) : ED (tOrV ta tb) ρ (.bool (a || b)) := fun σ B H ex ev Q q => by
  refine h1 σ B H ex ev _ fun v B1 H1 g1 d1 => ?_
  cases d1
  refine ⟨a, rfl, ?_⟩
  cases a with
  | true => exact q _ B1 H1 g1 (.bl true)
  | false => exact h2 rfl σ B1 H1 g1.t (ev.mono g1.b) Q fun v B' H' g3 d3 => q v B' H' (g1.trans g3) d3
theorem ed_notV {a : Bool} (h1 : ED ta ρ (.bool a)) : ED (tNotV ta) ρ (.bool (!a)) := fun σ B H ex ev Q q => by
  refine h1 σ B H ex ev _ fun v B1 H1 g1 d1 => ?_
  cases d1
  exact ⟨a, rfl, q _ B1 H1 g1 (.bl _)⟩
/-- a < b < c -/
theorem ed_chain {r' : R2} {f : PyData} {k k2 : Bool} (ha : ED ta ρ d) (hb : ED tb ρ e) (hr : RD2 r d e (.bool k)) (hc : k = true → ED tc ρ f ∧ RD2 r' e f (.bool k2)) : ED (tChain r r' ta tb tc) ρ (.bool (k && k2)) := fun σ B H ex ev Q q => by
  refine ha σ B H ex ev _ fun x B1 H1 g1 d1 => ?_
  refine hb σ B1 H1 g1.t (ev.mono g1.b) _ fun y B2 H2 g2 d2 => ?_
  refine hr B2 H2 x y g2.t (d1.mono g2.b) d2 _ fun v B3 H3 g3 d3 => ?_
  cases d3
  refine ⟨k, rfl, ?_⟩
  have gg := (g1.trans g2).trans g3
  cases k with
  | true =>
    obtain ⟨hc, hr'⟩ := hc rfl
    show tc σ H3 fun w' H4 => r' y w' H4 Q
    refine hc σ B3 H3 g3.t (ev.mono gg.b) _ fun w B4 H4 g4 d4 => ?_
    exact hr' B4 H4 y w g4.t ((d2.mono g3.b).mono g4.b) d4 Q fun v B' H' g5 d5 => q v B' H' ((gg.trans g4).trans g5) d5
  | false => exact q _ B3 H3 gg (.bl false)
theorem eo_none : EO tNoPart ρ none := fun σ B H ex ev Q q => q B H (Gr.refl ex)
theorem eo_some {i : Int} (h : ED te ρ (.int i)) : EO (tPart te) ρ (some i) := fun σ B H ex ev Q q => by
  refine h σ B H ex ev _ fun v B1 H1 g1 d1 => ?_
  cases d1
  exact ⟨i, rfl, q B1 H1 g1⟩
end
end Pd
/-! PdB -/
set_option Elab.async false
set_option linter.all false
set_option maxRecDepth 100000
set_option maxHeartbeats 4000000
namespace Pd
variable [Pd.Wd]
open PySem PySem.Spec PyProof.Rows L2

/-! ### operators of several kinds of operands -/
def rAddS : R2 := fun x y H Q => ∃ i j, x = .str i ∧ y = .str j ∧ i.length + j.length ≤ sizeLine ∧ Q (.str (i ++ j)) H
def rAddX (K : PySem.W.Frag) : R2 := fun x y H Q => rI0 (fun i j => .int (i + j)) x y H Q ∨ rAddS x y H Q ∨ rCatA K x y H Q ∨ rCat x y H Q
theorem op_addX {X : Cx} : OpR X (binaryOp .Add) (rAddX X.K) := OpR.or op_add (OpR.or op_add_str (OpR.or op_catA op_cat))
def rMulX : R2 := fun x y H Q => rI CMul (fun i j => .int (i * j)) x y H Q ∨ rRep x y H Q
theorem op_mulX' {X : Cx} : OpR X (binaryOp .Mult) rMulX := OpR.or op_mul op_rep
/-- x in t, t a tuple of data -/
def rInDT (K : PySem.W.Frag) (neg : Bool) : R2 := fun x y H Q => ∃ d ds, Dp K H x d ∧ Dp K H y (.tuple ds) ∧ SeqAt.shaped d = true ∧ SeqAt.shaped (.tuple ds) = true ∧ Q (.bl (if neg then !ds.any fun z => PyData.eqv z d else ds.any fun z => PyData.eqv z d)) H
theorem op_inDT {X : Cx} (hu : X.A.units + 65 < cLine) : OpR X (compareOp .In) (rInDT X.K false) := by
  intro pins s σ H x y v u Q I rx ry h
  obtain ⟨d, ds, hd, he, sd, se, q⟩ := h
  obtain ⟨as, r1⟩ := Dp.reads I d x v hd rx
  obtain ⟨bs, r2⟩ := Dp.reads I (.tuple ds) y u he ry
  exact SeqAt.in_tuple_reads r2 r1 (SeqAt.canLay_of_shaped se) (SeqAt.canLay_of_shaped sd) (room_in_shaped sd hu) ⟨.bl _, H, I, rfl, q⟩
theorem op_notInDT {X : Cx} (hu : X.A.units + 65 < cLine) : OpR X (compareOp .NotIn) (rInDT X.K true) := by
  intro pins s σ H x y v u Q I rx ry h
  obtain ⟨d, ds, hd, he, sd, se, q⟩ := h
  obtain ⟨as, r1⟩ := Dp.reads I d x v hd rx
  obtain ⟨bs, r2⟩ := Dp.reads I (.tuple ds) y u he ry
  exact SeqAt.notIn_tuple_reads r2 r1 (SeqAt.canLay_of_shaped se) (SeqAt.canLay_of_shaped sd) (room_in_shaped sd hu) ⟨.bl _, H, I, rfl, q⟩
def rInSg (neg : Bool) : R2 := fun x y H Q => ∃ (c : Nat) (z : Str), x = .str ⟨#[c]⟩ ∧ y = .str z ∧ Q (.bl (if neg then !decide (c ∈ z.cps.toList) else decide (c ∈ z.cps.toList))) H
def rInLs (K : PySem.W.Frag) (neg : Bool) : R2 := fun x y H Q => ∃ d ds, Dp K H x d ∧ Dp K H y (.list ds) ∧ SeqAt.shaped d = true ∧ SeqAt.shaped (.list ds) = true ∧ Q (.bl (if neg then !ds.any fun z => PyData.eqv z d else ds.any fun z => PyData.eqv z d)) H
def rInX (K : PySem.W.Frag) (neg : Bool) : R2 := fun x y H Q => rInDT K neg x y H Q ∨ rInLs K neg x y H Q ∨ rIn K neg x y H Q ∨ rInSg neg x y H Q
theorem op_inX {X : Cx} (hu : X.A.units + 65 < cLine) : OpR X (compareOp .In) (rInX X.K false) := OpR.or (op_inDT hu) (OpR.or (op_inD hu) (OpR.or op_in_seq op_in_sign))
theorem op_notInX {X : Cx} (hu : X.A.units + 65 < cLine) : OpR X (compareOp .NotIn) (rInX X.K true) := OpR.or (op_notInDT hu) (OpR.or (op_notInD hu) (OpR.or op_notIn_seq op_notIn_sign))
def rSlX (K : PySem.W.Frag) : V → Option Int → Option Int → Hp → VK → Prop := fun x lo hi H Q => rSlL K x lo hi H Q ∨ rSlA K x lo hi H Q ∨ rSlS x lo hi H Q
theorem sl_X {X : Cx} : SlR X (rSlX X.K) := SlR.or sl_list (SlR.or sl_tupA sl_str)
theorem hu65 {A : Around} {k : Nat} (hr : Room k A) : A.units + 65 < cLine := by
  have := hr.un
  omega

section
variable {K : PySem.W.Frag} {ρ : Rho} {ta tb tc te : TE} {t u : TT} {d e z : PyData} {ds es : List PyData} {i j : Int}
theorem r2_i0 {g : Int → Int → V} {f : Int → Int → PyData} (hf : ∀ (H : Hp) (a b : Int), DH H (g a b) (f a b)) : RD2 (rI0 g) (.int i) (.int j) (f i j) := fun B H x y ex dx dy Q q => by
  cases dx; cases dy
  exact ⟨i, j, rfl, rfl, q _ B H (Gr.refl ex) (hf B i j)⟩
theorem r2_iC {C : Int → Int → Prop} {g : Int → Int → V} {f : Int → Int → PyData} (hf : ∀ (H : Hp) (a b : Int), DH H (g a b) (f a b)) (hc : C i j) : RD2 (rI C g) (.int i) (.int j) (f i j) := fun B H x y ex dx dy Q q => by
  cases dx; cases dy
  exact ⟨i, j, rfl, rfl, hc, q _ B H (Gr.refl ex) (hf B i j)⟩
theorem r2_addI : RD2 (rAddX K) (.int i) (.int j) (.int (i + j)) := fun B H x y ex dx dy Q q => .inl (r2_i0 (f := fun a b => .int (a + b)) (fun _ a b => .int _) B H x y ex dx dy Q q)
theorem r2_subI : RD2 (rI0 fun i j => .int (i - j)) (.int i) (.int j) (.int (i - j)) := r2_i0 (f := fun a b => .int (a - b)) (fun _ a b => .int _)
theorem r2_lt : RD2 (rI0 fun i j => .bl (decide (i < j))) (.int i) (.int j) (.bool (decide (i < j))) := r2_i0 (f := fun a b => .bool (decide (a < b))) (fun _ a b => .bl _)
theorem r2_le : RD2 (rI0 fun i j => .bl (decide (i ≤ j))) (.int i) (.int j) (.bool (decide (i ≤ j))) := r2_i0 (f := fun a b => .bool (decide (a ≤ b))) (fun _ a b => .bl _)
theorem r2_gt : RD2 (rI0 fun i j => .bl (decide (j < i))) (.int i) (.int j) (.bool (decide (j < i))) := r2_i0 (f := fun a b => .bool (decide (b < a))) (fun _ a b => .bl _)
theorem r2_ge : RD2 (rI0 fun i j => .bl (decide (j ≤ i))) (.int i) (.int j) (.bool (decide (j ≤ i))) := r2_i0 (f := fun a b => .bool (decide (b ≤ a))) (fun _ a b => .bl _)
theorem r2_pow (h : CPow i j) : RD2 (rI CPow fun i j => .int (i ^ j.toNat)) (.int i) (.int j) (.int (i ^ j.toNat)) := r2_iC (f := fun a b => .int (a ^ b.toNat)) (fun _ a b => .int _) h
theorem r2_mulI (h : CMul i j) : RD2 rMulX (.int i) (.int j) (.int (i * j)) := fun B H x y ex dx dy Q q => .inl (r2_iC (f := fun a b => .int (a * b)) (fun _ a b => .int _) h B H x y ex dx dy Q q)
theorem r2_addS {x y : Str} (h : x.length + y.length ≤ 100000) : RD2 (rAddX K) (.str x) (.str y) (.str (x ++ y)) := fun B H a b ex dx dy Q q => by
  cases dx; cases dy
  exact .inr (.inl ⟨x, y, rfl, rfl, Nat.le_trans h (by decide), q _ B H (Gr.refl ex) (.str _)⟩)
theorem r2_catL (h : ds.length + es.length ≤ 100000) : RD2 (rAddX K) (.list ds) (.list es) (.list (ds ++ es)) := fun B H x y ex dx dy Q q => by
  cases dx with
  | @lst a xs _ ha hs =>
  cases dy with
  | @lst b ys _ hb hs' =>
    refine .inr (.inr (.inr ⟨a, b, xs, ys, rfl, rfl, ex _ _ ha, ex _ _ hb, ?_, fun p hp => ?_⟩))
    · rw [hs.length, hs'.length]
      exact Nat.le_trans h (by decide)
    · have g := Gr.new (o := .lst (xs ++ ys)) ex hp
      exact q _ _ _ g (.lst upd_same ((hs.append hs').mono g.b))
theorem r2_catT (h : ds.length + es.length ≤ 100000) : RD2 (rAddX K) (.tuple ds) (.tuple es) (.tuple (ds ++ es)) := fun B H x y ex dx dy Q q => by
  cases dx with
  | @tup a xs _ ha hs =>
  cases dy with
  | @tup b ys _ hb hs' =>
    refine .inr (.inr (.inl ⟨a, b, xs, ys, rfl, rfl, SqT.of (ex _ _ ha), SqT.of (ex _ _ hb), ?_, fun z => ?_, fun z1 z2 => ?_, fun z1 z2 p hp => ?_⟩))
    · rw [hs.length, hs'.length]
      exact Nat.le_trans h (by decide)
    · subst z
      cases hs
      exact q _ B H (Gr.refl ex) (.tup hb hs')
    · subst z2
      cases hs'
      rw [List.append_nil] at q
      exact q _ B H (Gr.refl ex) (.tup ha hs)
    · have g := Gr.new (o := .tup (xs ++ ys)) ex hp
      exact q _ _ _ g (.tup upd_same ((hs.append hs').mono g.b))
theorem r2_eq (hd : SeqAt.shaped d = true) (he : SeqAt.shaped e = true) : RD2 (rEqD K) d e (.bool (PyData.eqv d e)) := fun B H x y ex dx dy Q q =>
  ⟨d, e, (dx.mono ex).dp (SeqAt.canLay_of_shaped hd), (dy.mono ex).dp (SeqAt.canLay_of_shaped he), hd, he, q _ B H (Gr.refl ex) (.bl _)⟩
theorem r2_ne (hd : SeqAt.shaped d = true) (he : SeqAt.shaped e = true) : RD2 (rNeD K) d e (.bool (!PyData.eqv d e)) := fun B H x y ex dx dy Q q =>
  ⟨d, e, (dx.mono ex).dp (SeqAt.canLay_of_shaped hd), (dy.mono ex).dp (SeqAt.canLay_of_shaped he), hd, he, q _ B H (Gr.refl ex) (.bl _)⟩
theorem r2_inT {neg : Bool} (hd : SeqAt.shaped d = true) (he : SeqAt.shaped (.tuple ds) = true) : RD2 (rInX K neg) d (.tuple ds) (.bool (if neg then !ds.any fun z => PyData.eqv z d else ds.any fun z => PyData.eqv z d)) := fun B H x y ex dx dy Q q =>
  .inl ⟨d, ds, (dx.mono ex).dp (SeqAt.canLay_of_shaped hd), (dy.mono ex).dp (SeqAt.canLay_of_shaped he), hd, he, q _ B H (Gr.refl ex) (.bl _)⟩
theorem r2_inL {neg : Bool} (hd : SeqAt.shaped d = true) (he : SeqAt.shaped (.list ds) = true) : RD2 (rInX K neg) d (.list ds) (.bool (if neg then !ds.any fun z => PyData.eqv z d else ds.any fun z => PyData.eqv z d)) := fun B H x y ex dx dy Q q =>
  .inr (.inl ⟨d, ds, (dx.mono ex).dp (SeqAt.canLay_of_shaped hd), (dy.mono ex).dp (SeqAt.canLay_of_shaped he), hd, he, q _ B H (Gr.refl ex) (.bl _)⟩)
theorem r2_inS {neg : Bool} {c : Nat} {z : Str} : RD2 (rInX K neg) (.str ⟨#[c]⟩) (.str z) (.bool (if neg then !decide (c ∈ z.cps.toList) else decide (c ∈ z.cps.toList))) := fun B H x y ex dx dy Q q => by
  cases dx; cases dy
  exact .inr (.inr (.inr ⟨c, z, rfl, rfl, q _ B H (Gr.refl ex) (.bl _)⟩))
/-- x in T, T a tuple of texts of the module's own -/
theorem ed_inK {neg : Bool} {a : Addr} {xs : List V} {x : Str} (h : ED te ρ (.str x)) (hT : ∀ H, SqT K H a xs) (hf : xs.all flatV = true) : ED (tOp (rInX K neg) te (tC (.ref a))) ρ (.bool (if neg then !inV (.str x) xs else inV (.str x) xs)) := fun σ B H ex ev Q q => by
  refine h σ B H ex ev _ fun v B1 H1 g1 d1 => ?_
  cases d1
  exact .inr (.inr (.inl ⟨a, xs, rfl, .inr (hT H1), rfl, hf, q _ B1 H1 g1 (.bl _)⟩))
def isN : PyData → Bool
  | .none => true
  | _ => false
theorem r2_isN : RD2 (fun x y H Q => y = .non ∧ Q (.bl (decide (x = .non))) H) d .none (.bool (isN d)) := fun B H x y ex dx dy Q q => by
  cases dy
  refine ⟨rfl, q _ B H (Gr.refl ex) ?_⟩
  have e : decide (x = .non) = isN d := by cases dx <;> rfl
  rw [e]
  exact .bl _
theorem r2_notN : RD2 (fun x y H Q => y = .non ∧ Q (.bl (!decide (x = .non))) H) d .none (.bool (!isN d)) := fun B H x y ex dx dy Q q => by
  cases dy
  refine ⟨rfl, q _ B H (Gr.refl ex) ?_⟩
  have e : decide (x = .non) = isN d := by cases dx <;> rfl
  rw [e]
  exact .bl _
theorem atI_DHs {H : Hp} {xs : List V} (h : DHs H xs ds) (ha : atI ds i = some d) : ∃ v, atI xs i = some v ∧ DH H v d := by
  unfold atI at ha ⊢
  rw [h.length]
  cases e : ixN ds.length i with
  | none => rw [e] at ha; cases ha
  | some j =>
    rw [e] at ha
    exact h.get ha
theorem r2_ixL (ha : atI ds i = some d) : RD2 (rIx K) (.list ds) (.int i) d := fun B H x y ex dx dy Q q => by
  cases dy
  cases dx with
  | @lst a xs _ hb hs =>
    obtain ⟨v, h1, h2⟩ := atI_DHs hs ha
    exact .inl ⟨a, xs, i, v, rfl, rfl, SqL.of (ex _ _ hb), h1, q v B H (Gr.refl ex) h2⟩
theorem r2_ixT (ha : atI ds i = some d) : RD2 (rIx K) (.tuple ds) (.int i) d := fun B H x y ex dx dy Q q => by
  cases dy
  cases dx with
  | @tup a xs _ hb hs =>
    obtain ⟨v, h1, h2⟩ := atI_DHs hs ha
    exact .inr (.inl ⟨a, xs, i, v, rfl, rfl, SqT.of (ex _ _ hb), h1, q v B H (Gr.refl ex) h2⟩)
theorem r2_ixS {z : Str} {c : Nat} (hl : z.length ≤ 100000) (ha : atI z.cps.toList i = some c) : RD2 (rIx K) (.str z) (.int i) (.str ⟨#[c]⟩) := fun B H x y ex dx dy Q q => by
  cases dx; cases dy
  exact .inr (.inr ⟨z, i, c, rfl, rfl, Nat.le_trans hl (by decide), ha, q _ B H (Gr.refl ex) (.str _)⟩)
def cutD (ds : List PyData) (lo hi : Option Int) : List PyData := (ds.drop (HT.sIx ds.length 0 lo)).take (HT.sIx ds.length ds.length hi - HT.sIx ds.length 0 lo)
theorem DHs.cut {H : Hp} {xs : List V} {lo hi : Option Int} (h : DHs H xs ds) : DHs H (cutV xs lo hi) (cutD ds lo hi) := by
  unfold cutV cutD
  rw [h.length]
  exact (h.drop _).take _
theorem ed_slT {tl th : TO} {lo hi : Option Int} (h : ED te ρ (.tuple ds)) (hl : EO tl ρ lo) (hh : EO th ρ hi) : ED (tSl (rSlX K) te tl th) ρ (.tuple (cutD ds lo hi)) := fun σ B H ex ev Q q => by
  refine h σ B H ex ev _ fun v B1 H1 g1 d1 => ?_
  refine hl σ B1 H1 g1.t (ev.mono g1.b) _ fun B2 H2 g2 => ?_
  refine hh σ B2 H2 g2.t (ev.mono (g1.b.trans g2.b)) _ fun B3 H3 g3 => ?_
  have gg := (g1.trans g2).trans g3
  have d3 := (d1.mono g2.b).mono g3.b
  cases d3 with
  | @tup a xs _ ha hs =>
    refine .inr (.inl ⟨a, xs, rfl, SqT.of (g3.t _ _ ha), fun hw => ?_, fun hw p hp => ?_⟩)
    · refine q _ B3 H3 gg ?_
      have e : cutD ds lo hi = ds := by
        have hn := hs.length
        unfold cutD
        rw [hn] at hw
        rw [hw.1, hw.2]
        simp
      rw [e]
      exact .tup ha hs
    · have g := Gr.new (o := .tup (cutV xs lo hi)) g3.t hp
      exact q _ _ _ (gg.trans g) (.tup upd_same (hs.cut.mono g.b))
theorem ed_slL {tl th : TO} {lo hi : Option Int} (h : ED te ρ (.list ds)) (hl : EO tl ρ lo) (hh : EO th ρ hi) : ED (tSl (rSlX K) te tl th) ρ (.list (cutD ds lo hi)) := fun σ B H ex ev Q q => by
  refine h σ B H ex ev _ fun v B1 H1 g1 d1 => ?_
  refine hl σ B1 H1 g1.t (ev.mono g1.b) _ fun B2 H2 g2 => ?_
  refine hh σ B2 H2 g2.t (ev.mono (g1.b.trans g2.b)) _ fun B3 H3 g3 => ?_
  have gg := (g1.trans g2).trans g3
  have d3 := (d1.mono g2.b).mono g3.b
  cases d3 with
  | @lst a xs _ ha hs =>
    refine .inl ⟨a, xs, rfl, SqL.of (g3.t _ _ ha), fun p hp => ?_⟩
    have g := Gr.new (o := .lst (cutV xs lo hi)) g3.t hp
    exact q _ _ _ (gg.trans g) (.lst upd_same (hs.cut.mono g.b))
theorem ed_slS {tl th : TO} {lo hi : Option Int} {z : Str} (h : ED te ρ (.str z)) (hl : EO tl ρ lo) (hh : EO th ρ hi) (hz : z.length ≤ 100000) : ED (tSl (rSlX K) te tl th) ρ (.str (cutS z lo hi)) := fun σ B H ex ev Q q => by
  refine h σ B H ex ev _ fun v B1 H1 g1 d1 => ?_
  cases d1
  refine hl σ B1 H1 g1.t (ev.mono g1.b) _ fun B2 H2 g2 => ?_
  refine hh σ B2 H2 g2.t (ev.mono (g1.b.trans g2.b)) _ fun B3 H3 g3 => ?_
  exact .inr (.inr ⟨z, rfl, Nat.le_trans hz (by decide), q _ B3 H3 ((g1.trans g2).trans g3) (.str _)⟩)
/-! ### calls of built-ins -/
def rLenX (K : PySem.W.Frag) : List V → Hp → VK → Prop := fun xs H Q => ∃ x n, xs = [x] ∧ LenV K x H n ∧ Q (.int n) H
theorem rc_lenT : RC (rLenX K) [.tuple ds] (.int (ds.length : Nat)) := fun B H vs ex dv Q q => by
  cases dv with
  | cons dv r =>
    cases r
    cases dv with
    | @tup a xs _ ha hs =>
      rw [← hs.length] at q
      exact ⟨_, xs.length, rfl, .inr ⟨xs, SqT.of (ex _ _ ha), rfl⟩, q _ B H (Gr.refl ex) (.int _)⟩
theorem rc_lenL : RC (rLenX K) [.list ds] (.int (ds.length : Nat)) := fun B H vs ex dv Q q => by
  cases dv with
  | cons dv r =>
    cases r
    cases dv with
    | @lst a xs _ ha hs =>
      rw [← hs.length] at q
      exact ⟨_, xs.length, rfl, .inl ⟨xs, SqL.of (ex _ _ ha), rfl⟩, q _ B H (Gr.refl ex) (.int _)⟩
def rIntX : List V → Hp → VK → Prop := fun xs H Q => (∃ i, xs = [.int i] ∧ Q (.int i) H) ∨ ∃ k, xs = [.bl k] ∧ Q (.int (if k then 1 else 0)) H
theorem rc_intB {b : Bool} : RC rIntX [.bool b] (.int (if b then 1 else 0)) := fun B H vs ex dv Q q => by
  cases dv with
  | cons dv r =>
    cases r
    cases dv
    exact .inr ⟨b, rfl, q _ B H (Gr.refl ex) (.int _)⟩
def rTupX (K : PySem.W.Frag) : List V → Hp → VK → Prop := fun xs H Q => ∃ p ys, xs = [.ref p] ∧ ((SqL K H p ys ∧ ∀ l, H l = none → Q (.ref l) (upd H l (.tup ys))) ∨ (SqT K H p ys ∧ Q (.ref p) H))
theorem rc_tupL : RC (rTupX K) [.list ds] (.tuple ds) := fun B H vs ex dv Q q => by
  cases dv with
  | cons dv r =>
    cases r
    cases dv with
    | @lst a xs _ ha hs =>
      refine ⟨a, xs, rfl, .inl ⟨SqL.of (ex _ _ ha), fun p hp => ?_⟩⟩
      have g := Gr.new (o := .tup xs) ex hp
      exact q _ _ _ g (.tup upd_same (hs.mono g.b))
def tyN : PyData → String
  | .none => "NoneType"
  | .bool _ => "bool"
  | .int _ => "int"
  | .str _ => "str"
  | .list _ => "list"
  | .tuple _ => "tuple"
  | .dict _ => ""
theorem kit_no : PySem.fastBuiltinMro "" = none := by decide +kernel
theorem DH.ty {H H' : Hp} {v : V} {n : String} {b : Bool} (e : Ex H H') (h : DH H v d) (hk : kitB (tyN d) n = some b) (hn : n ≠ "") : TyX K H' v (.type (tyN d)) := by
  cases h with
  | dct _ _ =>
    exfalso
    have hk : (if (Value.type "" == Value.type n) = true then some true else if PySem.W.kitMeta n = true then (PySem.fastBuiltinMro "").map (·.contains (Value.type n)) else none) = some b := hk
    rw [kit_no] at hk
    by_cases h1 : (Value.type "" == Value.type n) = true
    · have h1 := beq_iff_eq.mp h1
      injection h1 with h1
      exact hn h1.symm
    · rw [if_neg h1] at hk
      split at hk <;> cases hk
  | non => exact .base .non
  | bl b => exact .base (.bl b)
  | int i => exact .base (.int i)
  | str x => exact .base (.str x)
  | lst h _ => exact .base (.lst (e _ _ h))
  | tup h _ => exact .base (.tup (e _ _ h))
theorem ed_isi {n : String} {b : Bool} (h : ED te ρ d) (hk : kitB (tyN d) n = some b) (hn : n ≠ "" := by decide) : ED (tCB (rIsi K) (tCons te (tCons (tC (.ty n)) tNil))) ρ (.bool b) := fun σ B H ex ev Q q => by
  refine h σ B H ex ev _ fun v B1 H1 g1 d1 => ?_
  exact ⟨v, .ty n, _, _, b, rfl, .ty n, d1.ty g1.t hk hn, kit_ty hk, q _ B1 H1 g1 (.bl b)⟩
/-- isinstance(x, (tuple, list)) -/
theorem ed_isi2 {n m : String} {b c : Bool} (h : ED te ρ d) (hk : kitB (tyN d) n = some b) (hk2 : kitB (tyN d) m = some c) (hn : n ≠ "" := by decide) : ED (tCB (rIsiT K) (tCons te (tCons (tTup (tCons (tC (.ty n)) (tCons (tC (.ty m)) tNil))) tNil))) ρ (.bool (b || c)) := fun σ B H ex ev Q q => by
  refine h σ B H ex ev _ fun v B1 H1 g1 d1 => ⟨by show 2 ≤ sizeLine; decide, fun p hp => ?_⟩
  have g2 := Gr.own (o := .tup [.ty n, .ty m]) g1.t hp
  refine ⟨v, p, [.ty n, .ty m], _, [.type n, .type m], b || c, rfl, upd_same, .cons (.ty n) (.cons (.ty m) .nil), d1.ty g2.t hk hn, ?_, q _ B1 _ (g1.trans g2) (.bl _)⟩
  refine kitAny_cons (kit_ty hk) (fun hb => ?_) (fun hb => by rw [hb]; rfl)
  rw [hb]
  exact kitAny_cons (kit_ty hk2) (fun hc => by rw [hc]; exact kitAny_nil) (fun hc => by rw [hc]; rfl)
/-- ''.join(texts) -/
def rJoin (K : PySem.W.Frag) : V → List V → Hp → VK → Prop := fun x xs H Q => ∃ a p, ∃ ys : List Str, x = .str a ∧ xs = [.ref p] ∧ (SqL K H p (ys.map V.str) ∨ SqT K H p (ys.map V.str)) ∧ (ys.map (·.length)).sum + ys.length * a.length ≤ 16777216 ∧ Q (.str (Txt.join a ys)) H
theorem ed_join {a : Str} {ys : List Str} (h : ED te ρ (.list (ys.map PyData.str))) (hz : (ys.map (·.length)).sum + ys.length * a.length ≤ 16777216) : ED (tM1 (rJoin K) (tC (.str a)) te) ρ (.str (Txt.join a ys)) := fun σ B H ex ev Q q => by
  refine ⟨⟨a, rfl⟩, ?_⟩
  refine h σ B H ex ev _ fun v B1 H1 g1 d1 => ?_
  cases d1 with
  | @lst p xs _ ha hs =>
    have e := hs.strs
    subst e
    exact ⟨a, p, ys, rfl, rfl, .inl (SqL.of (g1.t _ _ ha)), hz, q _ B1 H1 g1 (.str _)⟩
end
end Pd
/-! PdC -/
set_option Elab.async false
set_option linter.all false
set_option maxRecDepth 100000
set_option maxHeartbeats 4000000
namespace Pd
variable [Pd.Wd]
open PySem PySem.Spec PyProof.Rows L2

/-! ### targets -/
def GD (g : TG) (ρ : Rho) (d : PyData) (ρ' : Rho) (vs : List Nat) : Prop := ∀ σ B H v, Ex B H → EnvD σ B ρ → DH B v d → ∀ Q : L2.St → Hp → Prop, (∀ σ', EnvD σ' B ρ' → L2.wipe σ' vs = L2.wipe σ vs → Q σ' H) → g v σ H Q
def GDs (g : TGs) (ρ : Rho) (ds : List PyData) (ρ' : Rho) (vs : List Nat) : Prop := ∀ σ B H xs, Ex B H → EnvD σ B ρ → DHs B xs ds → ∀ Q : L2.St → Hp → Prop, (∀ σ', EnvD σ' B ρ' → L2.wipe σ' vs = L2.wipe σ vs → Q σ' H) → g xs σ H Q
theorem wipe_get (σ : L2.St) : ∀ (vs : List Nat) (i : Nat), (L2.wipe σ vs)[i]? = if i ∈ vs ∧ i < σ.length then some none else σ[i]?
  | [], i => by simp [L2.wipe]
  | v :: vs, i => by
    show ((L2.wipe σ vs).set v none)[i]? = _
    rw [List.getElem?_set, wipe_length]
    by_cases h : v = i
    · subst h
      by_cases hl : v < σ.length
      · rw [if_pos rfl, if_pos hl, if_pos ⟨List.mem_cons_self, hl⟩]
      · rw [if_pos rfl, if_neg hl, if_neg (fun z => hl z.2), List.getElem?_eq_none (by omega)]
    · rw [if_neg h, wipe_get σ vs i]
      by_cases hi : i ∈ vs
      · by_cases hl : i < σ.length
        · rw [if_pos ⟨hi, hl⟩, if_pos ⟨List.mem_cons_of_mem _ hi, hl⟩]
        · rw [if_neg (fun z => hl z.2), if_neg (fun z => hl z.2)]
      · have h2 : i ∉ v :: vs := fun z => by
          rcases List.mem_cons.mp z with z | z
          · exact h z.symm
          · exact hi z
        rw [if_neg (fun z => hi z.1), if_neg (fun z => h2 z.1)]
theorem wipe_set {σ : L2.St} {vs : List Nat} {j : Nat} {o : Option V} (h : j ∈ vs) : L2.wipe (σ.set j o) vs = L2.wipe σ vs := by
  refine List.ext_getElem? fun i => ?_
  rw [wipe_get, wipe_get, List.length_set, List.getElem?_set]
  by_cases hi : i ∈ vs ∧ i < σ.length
  · rw [if_pos hi, if_pos hi]
  · rw [if_neg hi, if_neg hi]
    by_cases hj : j = i
    · subst hj
      have hl : ¬ j < σ.length := fun z => hi ⟨h, z⟩
      rw [if_pos rfl, if_neg hl, List.getElem?_eq_none (by omega)]
    · rw [if_neg hj]
theorem wipe_idem (σ : L2.St) (vs : List Nat) : L2.wipe (L2.wipe σ vs) vs = L2.wipe σ vs := by
  refine List.ext_getElem? fun i => ?_
  rw [wipe_get, wipe_length, wipe_get]
  by_cases hi : i ∈ vs ∧ i < σ.length
  · rw [if_pos hi, if_pos hi]
  · rw [if_neg hi, if_neg hi]
section
variable {K : PySem.W.Frag} {ρ ρ' ρ1 : Rho} {ta tb tc te : TE} {tt : TT} {t u : TS} {d e z : PyData} {ds es : List PyData} {i j : Nat} {vs : List Nat}
theorem gd_name (h : i ∈ vs) : GD (gName i) ρ d (ρ.set i (some d)) vs := fun σ B H v ex ev dv Q q => q _ (ev.set i dv) (wipe_set h)
theorem gds_nil : GDs gNil ρ [] ρ vs := fun σ B H xs ex ev dv Q q => by
  cases dv
  exact ⟨rfl, q σ ev rfl⟩
theorem gds_cons {g : TG} {gs : TGs} (h : GD g ρ d ρ1 vs) (hs : GDs gs ρ1 ds ρ' vs) : GDs (gCons g gs) ρ (d :: ds) ρ' vs := fun σ B H xs ex ev dv Q q => by
  cases dv with
  | cons a r =>
    exact ⟨_, _, rfl, h σ B H _ ex ev a _ fun σ1 ev1 w1 => hs σ1 B H _ ex ev1 r _ fun σ2 ev2 w2 => q σ2 ev2 (w2.trans w1)⟩
theorem gd_tup {n : Nat} {gs : TGs} (hs : GDs gs ρ ds ρ' vs) (hn : ds.length = n) : GD (gTup K n gs) ρ (.tuple ds) ρ' vs := fun σ B H v ex ev dv Q q => by
  cases dv with
  | @tup a xs _ ha hx =>
    exact ⟨a, xs, rfl, SqT.of (ex _ _ ha), by rw [hx.length]; exact hn, hs σ B H xs ex ev hx Q q⟩

/-! ### statements -/
def RD (t : TS) (ρ : Rho) (d : PyData) : Prop := ∀ σ B H (D : Ends), Ex B H → EnvD σ B ρ → (∀ v B' H', Gr B H B' H' → DH B' v d → D.rt v H') → t D σ H
def SD (t : TS) (ρ ρ' : Rho) : Prop := ∀ σ B H (D : Ends), Ex B H → EnvD σ B ρ → (∀ σ' B' H', Gr B H B' H' → EnvD σ' B' ρ' → D.nx σ' H') → t D σ H
theorem rd_ret (h : ED te ρ d) : RD (tRet te) ρ d := fun σ B H D ex ev q => h σ B H ex ev D.rt q
theorem RD.is {d' : PyData} (h : RD t ρ d) (e : d = d') : RD t ρ d' := e ▸ h
theorem rd_seq (h : SD t ρ ρ') (k : RD u ρ' d) : RD (tSeq t u) ρ d := fun σ B H D ex ev q => h σ B H { D with nx := u D } ex ev fun σ' B' H' g ev' => k σ' B' H' D g.t ev' fun v B2 H2 g2 d2 => q v B2 H2 (g.trans g2) d2
/-- if t: return ..; the rest -/
theorem rd_ifS {b : Bool} {w : TS} (h : ET tt ρ b) (h1 : b = true → RD t ρ d) (h2 : b = false → RD w ρ d) : RD (tSeq (tIfS tt t tNext) w) ρ d := fun σ B H D ex ev q => by
  refine h σ B H ex ev _ fun B1 H1 g1 => ?_
  cases b with
  | true => exact h1 rfl σ B1 H1 { D with nx := w D } g1.t (ev.mono g1.b) fun v B' H' g3 d3 => q v B' H' (g1.trans g3) d3
  | false => exact h2 rfl σ B1 H1 D g1.t (ev.mono g1.b) fun v B' H' g3 d3 => q v B' H' (g1.trans g3) d3
theorem sd_set (h : ED te ρ d) : SD (tAsg te (gName i)) ρ (ρ.set i (some d)) := fun σ B H D ex ev q => h σ B H ex ev _ fun v B' H' g dv => q _ B' H' g ((ev.mono g.b).set i dv)
theorem sd_asg {g : TG} (h : ED te ρ d) (hg : GD g ρ d ρ' vs) : SD (tAsg te g) ρ ρ' := fun σ B H D ex ev q => h σ B H ex ev _ fun v B' H' gr dv => hg σ B' H' v gr.t (ev.mono gr.b) dv _ fun σ' ev' _ => q σ' B' H' gr ev'
/-! ### what a comprehension walks -/
def ItD (J : It) (B : Hp) (items : List PyData) : Prop := ∀ B1 H, Ex B B1 → Ex B1 H → ∀ i, (i = items.length → J.stop i H) ∧ ∀ d, items[i]? = some d → J.go i H ∧ ∀ x H', J.yld i H x H' → ∃ B2, Gr B1 H B2 H' ∧ DH B2 x d
def IE (wi : TI) (ρ : Rho) (items : List PyData) : Prop := ∀ σ B H, Ex B H → EnvD σ B ρ → ∀ R : It → Hp → Prop, (∀ J B' H', Gr B H B' H' → ItD J B' items → R J H') → wi σ H R
theorem ie_list (h : ED te ρ (.list ds)) : IE (iList K te) ρ ds := fun σ B H ex ev R q => by
  refine h σ B H ex ev _ fun v B1 H1 g1 d1 => ?_
  cases d1 with
  | @lst a xs _ ha hs =>
    refine ⟨a, rfl, ⟨xs, SqL.of (g1.t _ _ ha)⟩, q _ B1 H1 g1 fun B2 H2 e1 e2 i => ⟨fun hi => ⟨xs, SqL.of (e2 _ _ (e1 _ _ ha)), by rw [hs.length]; omega⟩, fun d hd => ?_⟩⟩
    obtain ⟨x, hx, dx⟩ := hs.get hd
    refine ⟨⟨xs, x, SqL.of (e2 _ _ (e1 _ _ ha)), hx⟩, fun y H' ⟨eh, hy⟩ => ⟨B2, ?_, ?_⟩⟩
    · subst eh
      exact Gr.refl e2
    · have := hy xs (SqL.of (e2 _ _ (e1 _ _ ha)))
      rw [hx] at this
      cases this
      exact dx.mono e1
theorem ie_tup (h : ED te ρ (.tuple ds)) : IE (iTup K te) ρ ds := fun σ B H ex ev R q => by
  refine h σ B H ex ev _ fun v B1 H1 g1 d1 => ?_
  cases d1 with
  | @tup a xs _ ha hs =>
    refine ⟨a, rfl, ⟨xs, SqT.of (g1.t _ _ ha)⟩, q _ B1 H1 g1 fun B2 H2 e1 e2 i => ⟨fun hi => ⟨xs, SqT.of (e2 _ _ (e1 _ _ ha)), by rw [hs.length]; omega⟩, fun d hd => ?_⟩⟩
    obtain ⟨x, hx, dx⟩ := hs.get hd
    refine ⟨⟨xs, x, SqT.of (e2 _ _ (e1 _ _ ha)), hx⟩, fun y H' ⟨eh, hy⟩ => ⟨B2, ?_, ?_⟩⟩
    · subst eh
      exact Gr.refl e2
    · have := hy xs (SqT.of (e2 _ _ (e1 _ _ ha)))
      rw [hx] at this
      cases this
      exact dx.mono e1
theorem ie_rng1 {ta : TA} {n : Int} (h : EA ta ρ [.int n]) (h0 : -100000 ≤ n) (h1 : n ≤ 100000) : IE (iRng1 ta) ρ ((List.range n.toNat).map fun k => .int (k : Nat)) := fun σ B H ex ev R q => by
  refine h σ B H ex ev _ fun v B1 H1 g1 d1 => ?_
  cases d1 with
  | cons a r =>
    cases r
    cases a
    refine ⟨n, rfl, by omega, by omega, q _ B1 H1 g1 fun B2 H2 e1 e2 i => ⟨fun hi => ?_, fun d hd => ?_⟩⟩
    · have : i = n.toNat := by simpa using hi
      exact Nat.le_of_eq this.symm
    · rw [List.getElem?_map] at hd
      cases hr : (List.range n.toNat)[i]? with
      | none => rw [hr] at hd; cases hd
      | some k =>
        rw [hr] at hd
        cases hd
        obtain ⟨hl, hk⟩ := List.getElem?_eq_some_iff.mp hr
        simp at hk hl
        subst hk
        refine ⟨by show i < n.toNat; omega, fun y H' ⟨eh, hy⟩ => ⟨B2, ?_, ?_⟩⟩
        · subst eh
          exact Gr.refl e2
        · have e0 : (0 : Int) + ((i : Nat) : Int) = (i : Int) := Int.zero_add _
          rw [hy, e0]
          exact .int _
theorem ie_rng2 {ta : TA} {m n : Int} (h : EA ta ρ [.int m, .int n]) (h0 : -100000 ≤ n) (h1 : n ≤ 100000) (h2 : -100000 ≤ m) (h3 : m ≤ 100000) : IE (iRng2 ta) ρ ((List.range (n - m).toNat).map fun k => .int (m + (k : Nat))) := fun σ B H ex ev R q => by
  refine h σ B H ex ev _ fun v B1 H1 g1 d1 => ?_
  cases d1 with
  | cons a r =>
  cases r with
  | cons b r =>
    cases r
    cases a
    cases b
    refine ⟨m, n, rfl, ⟨by omega, by omega, by omega, by omega⟩, q _ B1 H1 g1 fun B2 H2 e1 e2 i => ⟨fun hi => ?_, fun d hd => ?_⟩⟩
    · have : i = (n - m).toNat := by simpa using hi
      exact Nat.le_of_eq this.symm
    · rw [List.getElem?_map] at hd
      cases hr : (List.range (n - m).toNat)[i]? with
      | none => rw [hr] at hd; cases hd
      | some k =>
        rw [hr] at hd
        cases hd
        obtain ⟨hl, hk⟩ := List.getElem?_eq_some_iff.mp hr
        simp at hk hl
        subst hk
        refine ⟨by show i < (n - m).toNat; omega, fun y H' ⟨eh, hy⟩ => ⟨B2, ?_, ?_⟩⟩
        · subst eh
          exact Gr.refl e2
        · rw [hy]
          exact .int _
theorem take_filter_succ {α : Type} {items : List α} {f : α → Bool} {i : Nat} {d : α} (h : items[i]? = some d) : (items.take (i + 1)).filter f = (items.take i).filter f ++ (if f d = true then [d] else []) := by
  rw [List.take_add_one, h, List.filter_append]
  show _ ++ List.filter f [d] = _
  cases hf : f d with
  | true => simp [hf]
  | false => simp [hf]
/-- a comprehension over data: the items told by a list of any kind -/
theorem ed_lcT {α : Type} {wi : TI} {g : TG} (items : List α) (enc : α → PyData) (f : α → Bool) (v : α → PyData) (hi : IE wi ρ (items.map enc)) (hz : items.length ≤ 100000)
    (ht : ∀ d ∈ items, ∃ ρ', GD g (wipeR ρ vs) (enc d) ρ' vs ∧ ET tt ρ' (f d) ∧ (f d = true → ED te ρ' (v d))) : ED (tLc wi g tt te vs) ρ (.list ((items.filter f).map v)) := fun σ B H ex ev Q q => by
  refine hi σ B H ex ev _ fun J B1 H1 g1 hJ Dl hD => ?_
  have nB1 : B1 Dl = none := g1.t.nil hD
  refine ⟨fun i m H' => m = items.length - i ∧ i ≤ items.length ∧ ∃ B' xs, Gr B1 H1 B' H' ∧ H' Dl = some (.lst xs) ∧ B' Dl = none ∧ DHs B' xs (((items.take i).filter f).map v), ⟨items.length, by omega, Nat.zero_le _, B1, [], Gr.own g1.t hD, upd_same, nB1, .nil⟩, ?_⟩
  rintro i m H' ⟨rfl, hle, B', xs, g2, hDl, nB', hx⟩
  obtain ⟨hstop, hgo⟩ := hJ B' H' g2.b g2.t i
  by_cases hlt : i < items.length
  · right
    have hd : items[i]? = some items[i] := List.getElem?_eq_getElem hlt
    obtain ⟨go, hy⟩ := hgo (enc items[i]) (by rw [List.getElem?_map, hd]; rfl)
    refine ⟨go, fun H2 => i + 1 ≤ items.length ∧ ∃ B' xs, Gr B1 H1 B' H2 ∧ H2 Dl = some (.lst xs) ∧ B' Dl = none ∧ DHs B' xs (((items.take (i + 1)).filter f).map v), fun H2 ⟨h1, h2⟩ => ⟨items.length - (i + 1), by omega, rfl, h1, h2⟩, fun x H2 hyl => ?_⟩
    obtain ⟨B2, g3, dx⟩ := hy x H2 hyl
    obtain ⟨ρ', hg, htt, hte⟩ := ht _ (List.mem_of_getElem? hd)
    have hDn : H' Dl ≠ none := by rw [hDl]; exact fun z => nomatch z
    have n2 : B2 Dl = none := g3.n _ nB' hDn
    have e2 := g3.h _ _ hDl
    refine hg (L2.wipe σ vs) B2 H2 x g3.t (((ev.mono g1.b).mono (g2.b.trans g3.b)).wipe vs) dx _ fun σ2 ev2 w2 => ⟨w2.trans (wipe_idem σ vs), ?_⟩
    refine htt σ2 B2 H2 g3.t ev2 _ fun B3 H3 g4 => ?_
    have n3 : B3 Dl = none := g4.n _ n2 (by rw [e2]; exact fun z => nomatch z)
    have e3 := g4.h _ _ e2
    have g234 := (g2.trans g3).trans g4
    have hfs := take_filter_succ (f := f) hd
    cases hf : f items[i] with
    | true =>
      refine hte hf σ2 B3 H3 g4.t (ev2.mono g4.b) _ fun y B4 H4 g5 d5 => ?_
      have n4 : B4 Dl = none := g5.n _ n3 (by rw [e3]; exact fun z => nomatch z)
      have e4 := g5.h _ _ e3
      have g25 := g234.trans g5
      refine ⟨xs, e4, ?_, hlt, B4, xs ++ [y], ⟨g25.b, g5.t.mut n4, g25.h.mut hD, g25.n⟩, upd_same, n4, ?_⟩
      · have hl := hx.length
        rw [hl, List.length_map]
        have h1 := List.length_filter_le f (items.take i)
        rw [List.length_take] at h1
        have : ((items.take i).filter f).length ≤ 100000 := by omega
        exact Nat.lt_of_le_of_lt this (by decide)
      · rw [hfs, hf, if_pos rfl, List.map_append]
        exact (hx.mono ((g3.b.trans g4.b).trans g5.b)).append (.one d5)
    | false =>
      refine ⟨hlt, B3, xs, g234, e3, n3, ?_⟩
      rw [hfs, hf, if_neg (by decide), List.append_nil]
      exact hx.mono (g3.b.trans g4.b)
  · left
    have hie : i = items.length := by omega
    subst hie
    refine ⟨hstop (by rw [List.length_map]), ?_⟩
    rw [List.take_length] at hx
    refine q _ (upd B' Dl (.lst xs)) H' (g1.trans ⟨g2.b.mut nB1, fun a o ha => ?_, g2.h, fun a h1 h2 => ?_⟩) (.lst upd_same (hx.mono (Ex.new nB')))
    · by_cases h : a = Dl
      · subst h
        rw [upd_same] at ha
        cases ha
        exact hDl
      · rw [upd_ne h] at ha
        exact g2.t a o ha
    · have h : a ≠ Dl := fun z => h2 (by rw [z]; exact hD)
      rw [upd_ne h]
      exact g2.n a h1 h2
/-- the same without a test -/
theorem ed_lcM {α : Type} {wi : TI} {g : TG} (items : List α) (enc : α → PyData) (v : α → PyData) (hi : IE wi ρ (items.map enc)) (hz : items.length ≤ 100000)
    (ht : ∀ d ∈ items, ∃ ρ', GD g (wipeR ρ vs) (enc d) ρ' vs ∧ ED te ρ' (v d)) : ED (tLc wi g tYes te vs) ρ (.list (items.map v)) := by
  have h := ed_lcT (tt := tYes) (g := g) (vs := vs) (te := te) items enc (fun _ => true) v hi hz fun d hd => by
    obtain ⟨ρ', a, b⟩ := ht d hd
    exact ⟨ρ', a, et_yes, fun _ => b⟩
  rw [List.filter_eq_self.mpr (fun _ _ => rfl)] at h
  exact h
end

/-! ### defs -/
def spR (R : List PyData → PyData → Prop) : Sp := fun vs H Q _ => ∃ B ds d, Ex B H ∧ DHs B vs ds ∧ R ds d ∧ ∀ v B' H', Gr B H B' H' → DH B' v d → Q v H'
/-- where a def stands -/
def At (K : PySem.W.Frag) (mg : Str → Option Value) (x : Str) (st : Stmt) (ps : List Str) : Prop := ∃ f fd, mg x = some (.ref f) ∧ Fun K x x st f fd ∧ Binds K fd ps []
/-- a def that keeps a promise -/
def DefS (P : Program) (w : World) (K : PySem.W.Frag) (mg : Str → Option Value) (base : Heap) (CX : CXT) (k : Nat) (x : Str) (ps : List Str) (sp : Sp) : Prop :=
  ∃ f fd, mg x = some (.ref f) ∧ PySem.W.keepIn K (.ref f) = true ∧ Binds K fd ps [] ∧ FnOk P w K mg base CX k f fd ps sp
abbrev DefD (P : Program) (w : World) (K : PySem.W.Frag) (mg : Str → Option Value) (base : Heap) (k : Nat) (x : Str) (ps : List Str) (R : List PyData → PyData → Prop) : Prop := DefS P w K mg base CX0 k x ps (spR R)
theorem DefS.mono {P : Program} {w : World} {K : PySem.W.Frag} {mg : Str → Option Value} {base : Heap} {CX : CXT} {k j : Nat} {x : Str} {ps : List Str} {sp : Sp} (h : DefS P w K mg base CX k x ps sp) (hj : k ≤ j) : DefS P w K mg base CX j x ps sp :=
  let ⟨f, fd, a, b, c, d⟩ := h
  ⟨f, fd, a, b, c, d.mono hj⟩
section
variable {P : Program} {w : World} {K : PySem.W.Frag} {mg : Str → Option Value} {base : Heap} {x : Str} {st : Stmt} {ps N : List Str} {k : Nat} {R : List PyData → PyData → Prop} {sp : Sp}
theorem def_ok (F : At K mg x st ps) (S : FnScope N ps (defScope st)) (len : ∀ vs H Q E, sp vs H Q E → vs.length = ps.length)
    (hbody : ∀ (f : Addr) (cdv : Value) (A : Around) (outer : List Env) (s : Shared) (H : Hp) (vs : List V) (Q : VK) (E : XK), Room k (A.deeper (envOfC x (defScope st) s.heap.objs.size f cdv)) → sp vs H Q E →
      ∃ t, PSs (cxOf CX0 P w K mg base N x (defScope st) f cdv A outer s H E).nox (defBody st) t ∧ t { nx := fun _ H' => Q .non H', rt := Q } (L2.start N vs) H) : DefS P w K mg base CX0 (k + 1) x ps sp := by
  obtain ⟨f, fd, h1, h2, h3⟩ := F
  exact ⟨f, fd, h1, h2.kp, h3, h2.ok S len (hbody f)⟩
/-- a def over data -/
theorem def_okD (F : At K mg x st ps) (S : FnScope N ps (defScope st)) (len : ∀ ds d, R ds d → ds.length = ps.length)
    (hbody : ∀ (f : Addr) (cdv : Value) (A : Around) (outer : List Env) (s : Shared) (H : Hp) (E : XK), Room k (A.deeper (envOfC x (defScope st) s.heap.objs.size f cdv)) →
      ∃ t, PSs (cxOf CX0 P w K mg base N x (defScope st) f cdv A outer s H E).nox (defBody st) t ∧ ∀ ds d, R ds d → RD t (ds.map some ++ List.replicate (N.length - ds.length) none) d) (hN : ps.length ≤ N.length := by decide) : DefD P w K mg base (k + 1) x ps R := by
  refine def_ok F S (fun vs H Q E ⟨B, ds, d, _, h1, h2, _⟩ => ?_) fun f cdv A outer s H vs Q E hr ⟨B, ds, d, ex, h1, h2, q⟩ => ?_
  · rw [h1.length]
    exact len ds d h2
  · obtain ⟨t, ht, hd⟩ := hbody f cdv A outer s H E hr
    refine ⟨t, ht, hd ds d h2 _ B H _ ex (env_start h1 ?_) q⟩
    rw [h1.length, len ds d h2]
    exact hN
end
abbrev tCallD (sp : Sp) (t : TA) : TE := tCall sp [] E0 t
theorem pe_dcall {X : Cx} {k : Nat} {x : Str} {ps : List Str} {sp : Sp} {p pos : Pos} {e : Expr} {es : List Expr} {t : TA} (G : DefS X.prog X.w X.K X.mg X.base CX0 k x ps sp) (hr : Room k X.A) (ha : PA X (e :: es) t) (hg : Gl X x := by rfl)
    (hdb : (x == ("__debug__" : Str)) = false := by decide) (he : starEach (e :: es) X.env = (false, eval e X.env) :: starEach es X.env := by rfl) (hpl : (backTo pos (starEach es X.env)).any (·.1) = false := by rfl) :
    PE X (.Call (.Name x p) (e :: es) [] pos) (tCallD sp t) := by
  obtain ⟨f, fd, h1, h2, h3, h4⟩ := G
  exact pe_call h4 hr hg h1 h2 h3 .nil pass0 ha hdb he hpl
theorem ed_call {ρ : Rho} {ta : TA} {ds : List PyData} {d : PyData} {R : List PyData → PyData → Prop} (h : EA ta ρ ds) (hR : R ds d) : ED (tCallD (spR R) ta) ρ d := fun σ B H ex ev Q q => by
  refine h σ B H ex ev _ fun vs B1 H1 g1 d1 => ⟨B1, ds, d, g1.t, ?_, hR, fun v B' H' g2 d2 => q v B' H' (g1.trans g2) d2⟩
  rw [List.append_nil]
  exact d1
end Pd
/-! PdX -/
set_option Elab.async false
set_option linter.all false
set_option maxRecDepth 100000
set_option maxHeartbeats 4000000
namespace Pd
variable [Pd.Wd]
open PySem PySem.Spec PyProof.Rows L2
abbrev rSubI : R2 := rI0 fun i j => .int (i - j)
abbrev rModI : R2 := rI (fun _ j => 0 < j) fun i j => .int (i % j)
abbrev rFdivI : R2 := rI CDiv fun i j => .int (i / j)
abbrev rPowI : R2 := rI CPow fun i j => .int (i ^ j.toNat)
abbrev rLtI : R2 := rI0 fun i j => .bl (decide (i < j))
abbrev rLeI : R2 := rI0 fun i j => .bl (decide (i ≤ j))
abbrev rGtI : R2 := rI0 fun i j => .bl (decide (j < i))
abbrev rGeI : R2 := rI0 fun i j => .bl (decide (j ≤ i))
abbrev rIsN : R2 := fun x y H Q => y = .non ∧ Q (.bl (decide (x = .non))) H
abbrev rNotN : R2 := fun x y H Q => y = .non ∧ Q (.bl (!decide (x = .non))) H
theorem pe_globI {X : Cx} {x : Str} {i : Int} {pos : Pos} (hg : Gl X x) (hm : ∃ t, X.mg x = some (.int i t)) (hd : (x == ("__debug__" : Str)) = false := by decide) : PE X (.Name x pos) (tC (.int i)) := by
  obtain ⟨t, h⟩ := hm
  exact pe_glob hg h ⟨t, rfl⟩ hd

/-! ### zip(a tuple, a text) -/
def ItzTS (K : PySem.W.Frag) (a : Addr) (x : Str) : It :=
  ⟨fun i H => (∃ (xs : List V) (v : V), SqT K H a xs ∧ xs[i]? = some v) ∧ i < x.cps.size,
    fun i H v H' => ∃ T y c, v = .ref T ∧ H T = none ∧ x.cps[i]? = some c ∧ H' = upd H T (.tup [y, .str ⟨#[c]⟩]) ∧ ∀ xs, SqT K H a xs → xs[i]? = some y,
    fun i H => ∃ xs : List V, SqT K H a xs ∧ i ≤ xs.length ∧ i ≤ x.cps.size ∧ (i = xs.length ∨ i = x.cps.size)⟩
structure ApTS (z TI TO i1 i2 a : Addr) : Prop where
  sep : ZipSep2 z TI TO i1 i2 [i1, a] [i2]
  a1 : a ≠ i1
theorem turn_zipTS {P : Program} {w : World} {K : PySem.W.Frag} {elts : List Expr} {kk : Nat} {tpos : Pos} {a z TI TO i1 i2 : Addr} {x : Str} {t : Tok} (D : ApTS z TI TO i1 i2 a) :
    Turn P w K (.Tuple elts kk tpos) (ItzTS K a x) [z, TI, TO, i1, i2] z (fun i h => IsZip h z TI TO .none ∧ IsTupOf2 h TI (.ref i1) (.ref i2) ∧ (∃ x y, IsTupOf2 h TO x y) ∧ h.IsTupleIter i1 a i ∧ h.IsStrIter i2 (strIterType x) x t i) where
  mem := by simp
  obj := fun i h st c hc => by
    obtain ⟨hz, hTI, ⟨x, y, hTO⟩, ⟨o1, e1, _, d1⟩, ⟨o2, e2, _, d2⟩⟩ := st
    have e' : c = z ∨ c = TI ∨ c = TO ∨ c = i1 ∨ c = i2 := by simpa using hc
    rcases e' with q | q | q | q | q
    · rw [q]; exact ⟨_, hz, fun v q => nomatch q⟩
    · rw [q]; exact ⟨_, hTI, fun v q => nomatch q⟩
    · rw [q]; exact ⟨_, hTO, fun v q => nomatch q⟩
    · rw [q]; exact ⟨o1, e1, fun v q => by rw [d1] at q; cases q⟩
    · rw [q]; exact ⟨o2, e2, fun v q => by rw [d2] at q; cases q⟩
  keep := fun i h h' st k => by
    obtain ⟨hz, hTI, ⟨x, y, hTO⟩, h1, ⟨o2, e2, r2⟩⟩ := st
    exact ⟨k z (by simp) _ hz, k TI (by simp) _ hTI, ⟨x, y, k TO (by simp) _ hTO⟩, h1.at fun o q => k i1 (by simp) o q, ⟨o2, k i2 (by simp) _ e2, r2⟩⟩
  item := by
    intro X hP hw hK hc i pins s σ H E I hf st hg
    subst hP hw hK
    obtain ⟨hz, hTI, ⟨x0, y0, hTO⟩, h1, h2⟩ := st
    obtain ⟨⟨xs, y, hqx, hx⟩, hlt⟩ := hg
    obtain ⟨its, rv, p, _⟩ := I.tuple hqx
    obtain ⟨u, hu, ru⟩ := rv.get hx
    have hul : i < its.toArray.size := by
      have := (List.getElem?_eq_some_iff.mp hu).1
      simpa using this
    have hzl : z < s.heap.objs.size := Heap.lt_size hz
    have hh := I.ok.hd hc
    refine wpAny_pyNext_zipD2_item D.sep (Draws.tuple (A := X.A.in1) hh i1 a D.a1 its.toArray) (Draws.text (A := X.A.in1) hh i2 x t) hz hTI hTO ⟨h1, p⟩ h2 hul hlt fun x1 x2 h' tk p1 p2 hz' hTO' st1 st2 hT hsz hk => ?_
    have e1 : x1 = u := by
      have q1 : its.toArray[i]? = some x1 := p1
      have q2 : its[i]? = some x1 := by simpa using q1
      rw [hu] at q2
      exact (Option.some.inj q2).symm
    subst e1
    obtain ⟨c, tc, hcx, e2⟩ := p2
    subst e2
    refine ⟨_, rfl, wpAny_letOwnedTupleGo_zip (s := { s with heap := h', toks := tk }) hz' fun h'' z'' sb => ?_⟩
    have hT2 : h''.get? s.heap.objs.size = some { cls := .type "tuple", data := .seq #[x1, .str ⟨#[c]⟩ tc] } := (sb.2 _ (Nat.ne_of_gt hzl)).trans hT
    have new : ObjOk X.prog X.w (upd H s.heap.objs.size (.tup [y, .str ⟨#[c]⟩])) h'' s.heap.objs.size (.tup [y, .str ⟨#[c]⟩]) :=
      ⟨by show 2 ≤ sizeLine; decide, [x1, .str ⟨#[c]⟩ tc], .cons ru (.cons ⟨tc, rfl⟩ .nil), ⟨_, hT2, rfl, _, rfl⟩⟩
    have I1 : Inv X pins σ (upd H s.heap.objs.size (.tup [y, .str ⟨#[c]⟩])) { s with heap := h'', toks := tk } :=
      I.turnedNew (t' := tk) (ch := [z, TI, TO, i1, i2]) (fun c o hb q => (sb.2 c (fun q' => hb (by simp [q']))).trans (hk c o (fun q' => hb (by simp [q'])) (fun q' => hb (by simp [q'])) (fun q' => hb (by simp [q'])) (fun q' => hb (by simp [q'])) q)) hf (Nat.le_refl _) new
    refine ⟨.ref s.heap.objs.size, _, I1, rfl, ⟨_, y, c, rfl, I.hok.fresh (Nat.le_refl _), hcx, rfl, fun l hl => by rw [I.tuple_inj hl hqx]; exact hx⟩, ⟨z'', ?_, ⟨x1, .str ⟨#[c]⟩ tc, ?_⟩, ?_, ?_⟩, fun c hcm => ?_⟩
    · exact (sb.2 _ D.sep.TIz).trans (hk _ _ D.sep.TIz D.sep.TITO D.sep.TIi1 D.sep.TIi2 hTI)
    · exact (sb.2 _ D.sep.TOz).trans hTO'
    · exact st1.1.at fun o q => (sb.2 _ D.sep.zi1.symm).trans q
    · obtain ⟨o2, e2, r2⟩ := st2
      exact ⟨o2, (sb.2 _ D.sep.zi2.symm).trans e2, r2⟩
    · have hlt : c < s.heap.objs.size := by
        have e' : c = z ∨ c = TI ∨ c = TO ∨ c = i1 ∨ c = i2 := by simpa using hcm
        rcases e' with q | q | q | q | q
        · rw [q]; exact hzl
        · rw [q]; exact Heap.lt_size hTI
        · rw [q]; exact Heap.lt_size hTO
        · rw [q]; obtain ⟨_, e1, _⟩ := h1; exact Heap.lt_size e1
        · rw [q]; obtain ⟨_, e2, _⟩ := h2; exact Heap.lt_size e2
      rw [upd_ne (Nat.ne_of_lt hlt)]
      exact (hf c hcm).1
  done := by
    intro X hP hw hK hc i pins s σ H E I hf st hg
    subst hP hw hK
    obtain ⟨hz, hTI, ⟨x0, y0, hTO⟩, h1, h2⟩ := st
    obtain ⟨xs, hqx, l1, l2, hend⟩ := hg
    obtain ⟨its, rv, p, _⟩ := I.tuple hqx
    have hl : its.toArray.size = xs.length := by
      rw [List.size_toArray]
      exact rv.length.symm
    have hh := I.ok.hd hc
    refine wpAny_pyNext_zipD2_end D.sep (Draws.tuple (A := X.A.in1) hh i1 a D.a1 its.toArray) (Draws.text (A := X.A.in1) hh i2 x t) hz hTI hTO ⟨h1, p⟩ h2 (by omega) l2 (by omega) fun h' tk hk => ⟨rfl, I.turnedL (t' := tk) (ch := [z, TI, TO, i1, i2]) (fun c o hb q =>
      hk c o (fun q' => hb (by simp [q'])) (fun q' => hb (by simp [q'])) (fun q' => hb (by simp [q'])) (fun q' => hb (by simp [q'])) q) hf⟩
  self := fun A i s Q E st h => wpAny_pyIter_zip st.1 h
def iZipTS (K : PySem.W.Frag) (ta : TA) : TI := fun σ H R => ta σ H fun vs H1 => ∃ a xs x, vs = [.ref a, .str x] ∧ SqT K H1 a xs ∧ R (ItzTS K a x) H1
theorem pi_zipTS {X : Cx} {e e2 : Expr} {ta : TA} {p pos tpos : Pos} {elts : List Expr} {kk : Nat} (hg : Gl X "zip") (hm : X.mg "zip" = none) (ha : PA X [e, e2] ta)
    (hs : starEach [e, e2] X.env = (false, eval e X.env) :: starEach [e2] X.env := by rfl) (hpl : (backTo pos (starEach [e2] X.env)).any (·.1) = false := by rfl) :
    PI X (.Tuple elts kk tpos) (.Call (.Name "zip" p) [e, e2] [] pos) (iZipTS X.K ta) := by
  refine ⟨fun pins s σ H R I h => ?_⟩
  refine Call_ (ld_blt I hg hm PyProof.Rows.boot_zip (PyProof.Rows.callWith_type1 (thn (ha.run pos pins s σ H _ I h) fun us s1 ⟨vs, H1, I1, r1, q1⟩ => ?_) hs hpl))
  obtain ⟨a, xs, x, ex, hqx, q⟩ := q1
  subst ex
  cases r1 with
  | cons r rr =>
    cases rr with
    | cons r' rr =>
      cases rr
      cases r
      obtain ⟨t, rfl⟩ := r'
      obtain ⟨its, rv, p1, _⟩ := I1.tuple hqx
      have hal : a < s1.heap.objs.size := by obtain ⟨o, ho, _⟩ := id p1; exact Heap.lt_size ho
      refine zip_begins2 (begins_tuple a its.toArray) (begins_text x t) p1 trivial fun h' hz hTI hTO h1 h2 hsz hk => wpAny_pyIter_zip hz ?_
      have I2 : Inv X pins σ H1 { s1 with heap := h' } := I1.kept (t' := s1.toks) hk
      have hsep : ApTS (s1.heap.objs.size + 4) (s1.heap.objs.size + 2) (s1.heap.objs.size + 3) s1.heap.objs.size (s1.heap.objs.size + 1) a :=
        ⟨zip_sep2 (N := s1.heap.objs.size) (fp1 := [a]) (fp2 := []) (fun b hb => by simp at hb; rw [hb]; exact hal) (fun b hb => by simp at hb), Nat.ne_of_lt hal⟩
      refine ⟨s1.heap.objs.size + 4, [s1.heap.objs.size + 4, s1.heap.objs.size + 2, s1.heap.objs.size + 3, s1.heap.objs.size, s1.heap.objs.size + 1], _, _, H1, rfl, I2, turn_zipTS (t := t) hsep, ⟨hz, hTI, ⟨_, _, hTO⟩, ⟨_, h1, rfl, rfl⟩, ⟨_, h2, rfl, rfl⟩⟩, fun c hcm => ?_, q⟩
      have e' : c = s1.heap.objs.size + 4 ∨ c = s1.heap.objs.size + 2 ∨ c = s1.heap.objs.size + 3 ∨ c = s1.heap.objs.size ∨ c = s1.heap.objs.size + 1 := by simpa using hcm
      have hle : s1.heap.objs.size ≤ c := by
        rcases e' with z | z | z | z | z
        · rw [z]; exact Nat.le_add_right _ _
        · rw [z]; exact Nat.le_add_right _ _
        · rw [z]; exact Nat.le_add_right _ _
        · rw [z]; exact Nat.le_refl _
        · rw [z]; exact Nat.le_add_right _ _
      exact I1.fpOk hle (I1.hok.fresh hle)

/-! ### enumerate(a tuple) -/
def IteT (K : PySem.W.Frag) (a : Addr) : It :=
  ⟨fun i H => ∃ (xs : List V) (x : V), SqT K H a xs ∧ xs[i]? = some x, fun i H v H' => ∃ T x, v = .ref T ∧ H T = none ∧ H' = upd H T (.tup [.int (i : Nat), x]) ∧ ∀ xs, SqT K H a xs → xs[i]? = some x, fun i H => ∃ xs : List V, SqT K H a xs ∧ xs.length = i⟩
set_option maxHeartbeats 1000000 in
theorem meets_enumerate_newT (l : Addr) (items : Array Value) (n : Nat) (dct : Option Addr) (sl : Array (Option Value)) :
    Meets (Builtin.«enumerate.__new__» ⟨[.type "enumerate", .ref l], []⟩) (fun _ R s => s.heap.IsTuple l items ∧
      R (.ok (.ret (.ref (s.heap.push { cls := .type "tuple_iterator", data := .fields #[.ref l, .int 0 0] }).objs.size)))
        { s with heap := (s.heap.push { cls := .type "tuple_iterator", data := .fields #[.ref l, .int 0 0] }).push { cls := .type "enumerate", data := .fields #[.none, .bool false, .ref s.heap.objs.size, rawInt 0, .none, .none] } }) :=
  .of_wp fun prog w A R s h => by
    obtain ⟨hp, g, d, tk, os⟩ := s; obtain ⟨h1, h⟩ := h
    have hsub := sub_enumerate
    have q1 : ∀ {A' : Around} {E : Value → Shared → Prop} {Q : Value → Shared → Prop}, Q (.ref hp.objs.size) ⟨hp.push { cls := .type "tuple_iterator", data := .fields #[.ref l, .int 0 0] }, g, d, tk, os⟩ → wpAny (model prog w) A' (pyIter (.ref l)) Q E ⟨hp, g, d, tk, os⟩ :=
      fun q => wpAny_pyIter_tuple h1 q
    wp_walk
    refine wpAny_stack_any fun st => wpAny_pure ?_
    split
    · rename_i c _ _ _ _ _
      cases (c == Value.type "enumerate")
      · wp_walk using q1
        exact ⟨_, rfl, h⟩
      · wp_walk using q1
        exact ⟨_, rfl, h⟩
    · wp_walk using q1
      exact ⟨_, rfl, h⟩
theorem call_enumerate_tup {prog : Program} {w : World} {A : Around} {E : Value → Shared → Prop} {s : Shared} {l : Addr} {items : Array Value} {Q : Value → Shared → Prop} (hL : s.heap.IsTuple l items)
    (h : ∀ h', IsEnum h' (s.heap.objs.size + 1) s.heap.objs.size 0 .none → h'.IsTupleIter s.heap.objs.size l 0 → h'.objs.size = s.heap.objs.size + 2 →
      (∀ b o, s.heap.get? b = some o → h'.get? b = some o) → Q (.ref (s.heap.objs.size + 1)) { s with heap := h' }) :
    wpAny (model prog w) A (call (.type "enumerate") [.ref l]) Q E s := by
  refine callType_new F.called_enumerate (by decide) (F.typeCall_enumerate_1 _) (F.newCall_enumerate_1 _) (fun obj => F.args_object_init_2 obj _) F.entry_enumerate_new
    (meets_enumerate_newT l items 0 none #[]) ⟨hL, ?_⟩
  have hz : (s.heap.push { cls := .type "tuple_iterator", data := .fields #[.ref l, .int 0 0] }).objs.size = s.heap.objs.size + 1 := Heap.size_push ..
  show _ ∧ _
  rw [hz]
  have he : IsEnum ((s.heap.push { cls := .type "tuple_iterator", data := .fields #[.ref l, .int 0 0] }).push
      { cls := .type "enumerate", data := .fields #[.none, .bool false, .ref s.heap.objs.size, rawInt 0, .none, .none] }) (s.heap.objs.size + 1) s.heap.objs.size 0 .none := by
    have := Heap.get?_push_size (s.heap.push { cls := .type "tuple_iterator", data := .fields #[.ref l, .int 0 0] })
      (o := { cls := .type "enumerate", data := .fields #[.none, .bool false, .ref s.heap.objs.size, rawInt 0, .none, .none] }) rfl
    rw [hz] at this; exact this
  refine ⟨⟨_, he, rfl⟩, h _ he ⟨_, Heap.get?_push_of_some _ (Heap.get?_push_size _ rfl), rfl, rfl⟩ (by rw [Heap.size_push, hz]) fun b o x => Heap.get?_push_of_some _ (Heap.get?_push_of_some _ x)⟩
theorem turn_enumT {P : Program} {w : World} {K : PySem.W.Frag} {elts : List Expr} {kk : Nat} {tpos : Pos} (a e it : Addr) (hae : a ≠ e) (hai : a ≠ it) :
    Turn P w K (.Tuple elts kk tpos) (IteT K a) [e, it] e (fun i h => (∃ old, IsEnum h e it ((i : Nat) : Int) old) ∧ h.IsTupleIter it a i ∧ e ≠ it) where
  mem := by simp
  obj := fun i h st b hb => by
    obtain ⟨⟨old, he⟩, ⟨o, ho, hc, hd⟩, _⟩ := st
    have e' : b = e ∨ b = it := by simpa using hb
    rcases e' with z | z
    · rw [z]; exact ⟨_, he, fun v q => nomatch q⟩
    · rw [z]; exact ⟨o, ho, fun v q => by rw [hd] at q; cases q⟩
  keep := fun i h h' st k => let ⟨⟨old, he⟩, hi, hne⟩ := st; ⟨⟨old, k e (by simp) _ he⟩, hi.at fun o q => k it (by simp) o q, hne⟩
  item := by
    intro X hP hw hK hc i pins s σ H E I hf st hg
    subst hP hw hK
    obtain ⟨⟨old, he⟩, hit, hne⟩ := st
    obtain ⟨xs, x, hq, hx⟩ := hg
    obtain ⟨its, rv, p, hz⟩ := I.tuple hq
    obtain ⟨u, hu, ru⟩ := rv.get hx
    have hel : e < s.heap.objs.size := Heap.lt_size he
    have hil : it < s.heap.objs.size := by obtain ⟨_, q, _⟩ := hit; exact Heap.lt_size q
    have hul : i < its.toArray.size := by
      have := (List.getElem?_eq_some_iff.mp hu).1
      simpa using this
    have hh := I.ok.hd hc
    refine wpAny_pyNext_enum_itemD (Draws.tuple (A := X.A.in1) hh it a hai its.toArray) he ⟨hit, p⟩ hul hne (by simp [hne, hae.symm]) fun x1 h' tk p1 ho st' hT hsz hk => ?_
    have e1 : x1 = u := by
      have q2 : its[i]? = some x1 := by simpa using p1
      rw [hu] at q2
      exact (Option.some.inj q2).symm
    subst e1
    refine ⟨_, rfl, wpAny_letOwnedTupleGo_enum (s := { s with heap := h', toks := tk + 1 }) ho fun h'' he' sb => ?_⟩
    have hT2 : h''.get? s.heap.objs.size = some { cls := .type "tuple", data := .seq #[.int i tk, x1] } := (sb.2 _ (Nat.ne_of_gt hel)).trans hT
    have new : ObjOk X.prog X.w (upd H s.heap.objs.size (.tup [.int (i : Nat), x])) h'' s.heap.objs.size (.tup [.int (i : Nat), x]) :=
      ⟨by show 2 ≤ sizeLine; decide, [.int i tk, x1], .cons ⟨_, rfl⟩ (.cons ru .nil), ⟨_, hT2, rfl, _, rfl⟩⟩
    have I1 : Inv X pins σ (upd H s.heap.objs.size (.tup [.int (i : Nat), x])) { s with heap := h'', toks := tk + 1 } :=
      I.turnedNew (ch := [e, it]) (fun b ob hb q => (sb.2 b (fun z => hb (by simp [z]))).trans (hk b ob (fun z => hb (by simp [z])) (fun z => hb (by simp [z])) q)) hf (Nat.le_refl _) new
    refine ⟨.ref s.heap.objs.size, _, I1, rfl, ⟨_, x, rfl, I.hok.fresh (Nat.le_refl _), rfl, fun ys hy => by rw [I.tuple_inj hy hq]; exact hx⟩, ⟨⟨x1, ?_⟩, st'.1.at fun o q => (sb.2 it (Ne.symm hne)).trans q, hne⟩, fun b hb => ?_⟩
    · have e1 : ((i + 1 : Nat) : Int) = (i : Int) + 1 := by omega
      rw [e1]; exact he'
    · have hb' : b < s.heap.objs.size := by
        have e' : b = e ∨ b = it := by simpa using hb
        rcases e' with z | z
        · rw [z]; exact hel
        · rw [z]; exact hil
      rw [upd_ne (Nat.ne_of_lt hb')]
      exact (hf b hb).1
  done := by
    intro X hP hw hK hc i pins s σ H E I hf st hg
    subst hP hw hK
    obtain ⟨⟨old, he⟩, hit, hne⟩ := st
    obtain ⟨xs, hq, hx⟩ := hg
    obtain ⟨its, rv, p, hz⟩ := I.tuple hq
    obtain ⟨f0, f1, f2, f3, f4, f5⟩ := hf it (by simp)
    have hl : its.toArray.size = i := by
      rw [List.size_toArray, ← hx]
      exact rv.length.symm
    have hh := I.ok.hd hc
    subst hl
    exact wpAny_pyNext_enum_endD (Draws.tuple (A := X.A.in1) hh it a hai its.toArray) he ⟨hit, p⟩ fun h' eb => ⟨rfl, I.turned (t' := s.toks) (fun b o hb q => eb b o hb q) f0 f1 f3 f4 f5⟩
  self := fun A i s Q E st h => let ⟨⟨_, he⟩, _⟩ := st; wpAny_pyIter_enum he h
def iEnumX (K : PySem.W.Frag) (ta : TA) : TI := fun σ H R => ta σ H fun vs H1 => ∃ a xs, vs = [.ref a] ∧ ((SqL K H1 a xs ∧ R (Ite K a) H1) ∨ (SqT K H1 a xs ∧ R (IteT K a) H1))
theorem pi_enumX {X : Cx} {e : Expr} {ta : TA} {p pos tpos : Pos} {elts : List Expr} {kk : Nat} (hg : Gl X "enumerate") (hm : X.mg "enumerate" = none) (ha : PA X [e] ta) (hs : starEach [e] X.env = [(false, eval e X.env)] := by rfl) :
    PI X (.Tuple elts kk tpos) (.Call (.Name "enumerate" p) [e] [] pos) (iEnumX X.K ta) := by
  refine ⟨fun pins s σ H R I h => ?_⟩
  refine Call_ (ld_blt I hg hm boot_enumerate (PyProof.Rows.callWith_type1 (thn (ha.run pos pins s σ H _ I h) fun us s1 ⟨vs, H1, I1, r1, q1⟩ => ?_) hs rfl))
  obtain ⟨a, xs, ex, q1⟩ := q1
  subst ex
  cases r1 with
  | cons r rr =>
    cases rr
    cases r
    have fr : ∀ b, b ∈ [s1.heap.objs.size + 1, s1.heap.objs.size] → FpOk X pins H1 b := fun b hb => by
      have e' : b = s1.heap.objs.size + 1 ∨ b = s1.heap.objs.size := by simpa using hb
      have hle : s1.heap.objs.size ≤ b := by
        rcases e' with z | z
        · rw [z]; exact Nat.le_add_right _ _
        · rw [z]; exact Nat.le_refl _
      exact I1.fpOk hle (I1.hok.fresh hle)
    rcases q1 with ⟨hq, q⟩ | ⟨hq, q⟩
    · obtain ⟨its, rv, p', hz⟩ := I1.list hq
      refine call_enumerate_list p'.isList fun h' he hit hsz hk => wpAny_pyIter_enum he ?_
      have I2 : Inv X pins σ H1 { s1 with heap := h' } := I1.kept (t' := s1.toks) hk
      exact ⟨s1.heap.objs.size + 1, [s1.heap.objs.size + 1, s1.heap.objs.size], _, _, H1, rfl, I2, turn_enum a (s1.heap.objs.size + 1) s1.heap.objs.size, ⟨⟨.none, he⟩, hit, Nat.succ_ne_self _⟩, fr, q⟩
    · obtain ⟨its, rv, p', hz⟩ := I1.tuple hq
      have hal : a < s1.heap.objs.size := by obtain ⟨o, ho, _⟩ := id p'; exact Heap.lt_size ho
      refine call_enumerate_tup (items := its.toArray) p' fun h' he hit hsz hk => wpAny_pyIter_enum he ?_
      have I2 : Inv X pins σ H1 { s1 with heap := h' } := I1.kept (t' := s1.toks) hk
      exact ⟨s1.heap.objs.size + 1, [s1.heap.objs.size + 1, s1.heap.objs.size], _, _, H1, rfl, I2, turn_enumT a (s1.heap.objs.size + 1) s1.heap.objs.size (Nat.ne_of_lt (Nat.lt_succ_of_lt hal)) (Nat.ne_of_lt hal), ⟨⟨.none, he⟩, hit, Nat.succ_ne_self _⟩, fr, q⟩
theorem ie_zipTS {K : PySem.W.Frag} {ρ : Rho} {ta : TA} {ds : List PyData} {x : Str} (h : EA ta ρ [.tuple ds, .str x]) : IE (iZipTS K ta) ρ (List.zipWith (fun d c => .tuple [d, .str ⟨#[c]⟩]) ds x.cps.toList) := fun σ B H ex ev R q => by
  refine h σ B H ex ev _ fun vs B1 H1 g1 d1 => ?_
  cases d1 with
  | cons a1 r =>
  cases r with
  | cons a2 r =>
    cases r
    cases a2
    cases a1 with
    | @tup a xs _ ha hs =>
      have hl := hs.length
      refine ⟨a, xs, x, rfl, SqT.of (g1.t _ _ ha), q _ B1 H1 g1 fun B2 H2 e1 e2 i => ⟨fun hi => ?_, fun d hd => ?_⟩⟩
      · have e0 : x.cps.toList.length = x.cps.size := Array.length_toList
        rw [List.length_zipWith] at hi
        exact ⟨xs, SqT.of (e2 _ _ (e1 _ _ ha)), by omega, by omega, by omega⟩
      · rw [List.getElem?_zipWith] at hd
        cases hd1 : ds[i]? with
        | none => rw [hd1] at hd; simp at hd
        | some d0 =>
          cases hc : x.cps.toList[i]? with
          | none => rw [hd1, hc] at hd; simp at hd
          | some c =>
            rw [hd1, hc] at hd
            simp at hd
            subst hd
            obtain ⟨v, hv, dv⟩ := hs.get hd1
            rw [Array.getElem?_toList] at hc
            have hlt : i < x.cps.size := by
              by_cases hl : i < x.cps.size
              · exact hl
              · rw [Array.getElem?_eq_none (by omega)] at hc
                cases hc
            refine ⟨⟨⟨xs, v, SqT.of (e2 _ _ (e1 _ _ ha)), hv⟩, hlt⟩, fun y H' hy => ?_⟩
            obtain ⟨T, y', c', rfl, hT, hc', rfl, hy'⟩ := hy
            have e3 := hy' xs (SqT.of (e2 _ _ (e1 _ _ ha)))
            rw [hv] at e3
            cases e3
            rw [hc] at hc'
            cases hc'
            have g := Gr.new (o := .tup [v, .str ⟨#[c]⟩]) e2 hT
            exact ⟨_, g, .tup upd_same (.cons (dv.mono (e1.trans g.b)) (.cons (.str _) .nil))⟩
end Pd
/-! PdM -/
set_option Elab.async false
set_option linter.all false
set_option maxRecDepth 100000
set_option maxHeartbeats 4000000
/-! min(a, b), max(a, b) of two tuples of ints -/
namespace PySem
variable [Pd.Wd]
open PySem.W
section
variable {prog : Program} {w : World} {A : Around} {E : Value → Shared → Prop} {s : Shared}
end
end PySem
namespace Pd
variable [Pd.Wd]
open PySem PySem.Spec PyProof.Rows L2 PySem.W
end Pd
/-! Rdg -/
set_option Elab.async false
set_option linter.all false
set_option maxRecDepth 100000
set_option maxHeartbeats 4000000
namespace Pd
variable [Pd.Wd]
open PySem PySem.Spec PyProof.Rows L2
def rd_is_number (K : PySem.W.Frag) : TS := (tRet (tAndV (tCB (rIsi K) (tCons (tVar 0) (tCons (tC (.ty "int")) tNil))) (tNotV (tCB (rIsi K) (tCons (tVar 0) (tCons (tC (.ty "bool")) tNil))))))
def rd_is_side (K : PySem.W.Frag) (sp_is_number : Sp) : TS := (tRet (tAndV (tCallD sp_is_number (tCons (tVar 0) tNil)) (tChain rLeI rLeI (tC (.int 1)) (tVar 0) (tC (.int 5)))))
def rd_is_cell (K : PySem.W.Frag) (sp_is_number : Sp) : TS := (tSeq (tIfS (tOr (tNot (tB (tCB (rIsi K) (tCons (tVar 1) (tCons (tC (.ty "tuple")) tNil))))) (tTest (tOp (rNeD K) (tCB (rLenX K) (tCons (tVar 1) tNil)) (tC (.int 2))))) (tRet (tC (.bl false))) tNext) (tSeq (tAsg (tVar 1) (gTup K 2 (gCons (gName 2) (gCons (gName 3) gNil)))) (tSeq (tIfS (tOr (tNot (tB (tCallD sp_is_number (tCons (tVar 2) tNil)))) (tNot (tB (tCallD sp_is_number (tCons (tVar 3) tNil))))) (tRet (tC (.bl false))) tNext) (tRet (tAndV (tChain rLeI rLtI (tC (.int 0)) (tVar 2) (tOp (rIx K) (tVar 0) (tC (.int 0)))) (tChain rLeI rLtI (tC (.int 0)) (tVar 3) (tOp (rIx K) (tVar 0) (tC (.int 1)))))))))
def rd_is_edge (K : PySem.W.Frag) (sp_is_cell : Sp) : TS := (tSeq (tIfS (tOr (tNot (tB (tCB (rIsi K) (tCons (tVar 1) (tCons (tC (.ty "tuple")) tNil))))) (tTest (tOp (rNeD K) (tCB (rLenX K) (tCons (tVar 1) tNil)) (tC (.int 3))))) (tRet (tC (.bl false))) tNext) (tSeq (tAsg (tVar 1) (gTup K 3 (gCons (gName 2) (gCons (gName 3) (gCons (gName 4) gNil))))) (tSeq (tIfS (tNot (tB (tCallD sp_is_cell (tCons (tVar 0) (tCons (tTup (tCons (tVar 2) (tCons (tVar 3) tNil))) tNil))))) (tRet (tC (.bl false))) tNext) (tSeq (tIfS (tTest (tOp (rEqD K) (tVar 4) (tC (.str "-")))) (tRet (tOp rGtI (tVar 2) (tC (.int 0)))) tNext) (tRet (tAndV (tOp (rEqD K) (tVar 4) (tC (.str "|"))) (tOp rGtI (tVar 3) (tC (.int 0)))))))))
def rd_edge_from (K : PySem.W.Frag) : TS := (tSeq (tIfS (tTest (tOp (rEqD K) (tVar 2) (tC (.str "n")))) (tRet (tTup (tCons (tOp rSubI (tVar 0) (tC (.int 1))) (tCons (tVar 1) (tCons (tC (.str "|")) tNil))))) tNext) (tSeq (tIfS (tTest (tOp (rEqD K) (tVar 2) (tC (.str "e")))) (tRet (tTup (tCons (tVar 0) (tCons (tVar 1) (tCons (tC (.str "-")) tNil))))) tNext) (tSeq (tIfS (tTest (tOp (rEqD K) (tVar 2) (tC (.str "s")))) (tRet (tTup (tCons (tVar 0) (tCons (tVar 1) (tCons (tC (.str "|")) tNil))))) tNext) (tRet (tTup (tCons (tVar 0) (tCons (tOp rSubI (tVar 1) (tC (.int 1))) (tCons (tC (.str "-")) tNil))))))))
def rd_edge_crossed (K : PySem.W.Frag) : TS := (tSeq (tAsg (tVar 0) (gTup K 2 (gCons (gName 2) (gCons (gName 3) gNil)))) (tSeq (tIfS (tTest (tOp (rEqD K) (tVar 1) (tC (.str "n")))) (tRet (tTup (tCons (tVar 2) (tCons (tVar 3) (tCons (tC (.str "-")) tNil))))) tNext) (tSeq (tIfS (tTest (tOp (rEqD K) (tVar 1) (tC (.str "e")))) (tRet (tTup (tCons (tVar 2) (tCons (tOp (rAddX K) (tVar 3) (tC (.int 1))) (tCons (tC (.str "|")) tNil))))) tNext) (tSeq (tIfS (tTest (tOp (rEqD K) (tVar 1) (tC (.str "s")))) (tRet (tTup (tCons (tOp (rAddX K) (tVar 2) (tC (.int 1))) (tCons (tVar 3) (tCons (tC (.str "-")) tNil))))) tNext) (tRet (tTup (tCons (tVar 2) (tCons (tVar 3) (tCons (tC (.str "|")) tNil)))))))))
def rd_next_cell (K : PySem.W.Frag) : TS := (tSeq (tAsg (tVar 0) (gTup K 2 (gCons (gName 2) (gCons (gName 3) gNil)))) (tSeq (tIfS (tTest (tOp (rEqD K) (tVar 1) (tC (.str "n")))) (tRet (tTup (tCons (tOp rSubI (tVar 2) (tC (.int 1))) (tCons (tVar 3) tNil)))) tNext) (tSeq (tIfS (tTest (tOp (rEqD K) (tVar 1) (tC (.str "e")))) (tRet (tTup (tCons (tVar 2) (tCons (tOp (rAddX K) (tVar 3) (tC (.int 1))) tNil)))) tNext) (tSeq (tIfS (tTest (tOp (rEqD K) (tVar 1) (tC (.str "s")))) (tRet (tTup (tCons (tOp (rAddX K) (tVar 2) (tC (.int 1))) (tCons (tVar 3) tNil)))) tNext) (tRet (tTup (tCons (tVar 2) (tCons (tOp rSubI (tVar 3) (tC (.int 1))) tNil))))))))
def rd_door_edge (K : PySem.W.Frag) (aWAYS : Addr) (sp_edge_from : Sp) (sp_is_number : Sp) : TS := (tSeq (tIfS (tOr (tNot (tB (tCB (rIsi K) (tCons (tVar 0) (tCons (tC (.ty "tuple")) tNil))))) (tTest (tOp (rNeD K) (tCB (rLenX K) (tCons (tVar 0) tNil)) (tC (.int 3))))) (tRet (tC .non)) tNext) (tSeq (tAsg (tVar 0) (gTup K 3 (gCons (gName 1) (gCons (gName 2) (gCons (gName 3) gNil))))) (tSeq (tIfS (tOr (tNot (tB (tCallD sp_is_number (tCons (tVar 1) tNil)))) (tOr (tNot (tB (tCallD sp_is_number (tCons (tVar 2) tNil)))) (tTest (tOp (rInX K true) (tVar 3) (tC (.ref aWAYS)))))) (tRet (tC .non)) tNext) (tRet (tCallD sp_edge_from (tCons (tVar 1) (tCons (tVar 2) (tCons (tVar 3) tNil))))))))
def rd_first_standing (K : PySem.W.Frag) : TS := (tRet (tTup (tCons (tVar 1) (tCons (tM1 (rJoin K) (tC (.str "")) (tLc (iTup K (tOp (rIx K) (tVar 0) (tC (.int 3)))) (gName 2) tYes (tOp (rIx K) (tVar 2) (tC (.int 2))) [2])) tNil))))
def rd_door_edges (K : PySem.W.Frag) (sp_edge_from : Sp) : TS := (tRet (tLc (iZipTS K (tCons (tOp (rIx K) (tVar 0) (tC (.int 3))) (tCons (tVar 1) tNil))) (gTup K 2 (gCons (gName 2) (gCons (gName 3) gNil))) tYes (tCallD sp_edge_from (tCons (tOp (rIx K) (tVar 2) (tC (.int 0))) (tCons (tOp (rIx K) (tVar 2) (tC (.int 1))) (tCons (tVar 3) tNil)))) [2, 3]))
def rd_swung_ways (K : PySem.W.Frag) (sp_door_edges : Sp) (sp_edge_from : Sp) (sp_is_edge : Sp) : TS := (tSeq (tAsg (tOp (rIx K) (tOp (rIx K) (tVar 0) (tC (.int 3))) (tVar 2)) (gTup K 3 (gCons (gName 4) (gCons (gName 5) (gCons (gName 6) gNil))))) (tSeq (tAsg (tCallD sp_edge_from (tCons (tVar 4) (tCons (tVar 5) (tCons (tVar 3) tNil)))) (gName 7)) (tSeq (tIfS (tOr (tNot (tB (tCallD sp_is_edge (tCons (tVar 0) (tCons (tVar 7) tNil))))) (tOr (tTest (tOp (rInX K false) (tVar 7) (tOp (rIx K) (tVar 0) (tC (.int 2))))) (tTest (tOp (rInX K false) (tVar 7) (tCallD sp_door_edges (tCons (tVar 0) (tCons (tVar 1) tNil))))))) (tRet (tC .non)) tNext) (tRet (tOp (rAddX K) (tOp (rAddX K) (tSl (rSlX K) (tVar 1) tNoPart (tPart (tVar 2))) (tVar 3)) (tSl (rSlX K) (tVar 1) (tPart (tOp (rAddX K) (tVar 2) (tC (.int 1)))) tNoPart))))))
def rd_step_done (K : PySem.W.Frag) (sp_door_edges : Sp) (sp_edge_crossed : Sp) (sp_is_cell : Sp) (sp_next_cell : Sp) (sp_swung_ways : Sp) : TS := (tSeq (tAsg (tVar 1) (gTup K 2 (gCons (gName 3) (gCons (gName 4) gNil)))) (tSeq (tAsg (tVar 2) (gTup K 2 (gCons (gName 5) (gCons (gName 6) gNil)))) (tSeq (tAsg (tCallD sp_next_cell (tCons (tOp (rIx K) (tVar 3) (tVar 5)) (tCons (tVar 6) tNil))) (gName 7)) (tSeq (tAsg (tCallD sp_edge_crossed (tCons (tOp (rIx K) (tVar 3) (tVar 5)) (tCons (tVar 6) tNil))) (gName 8)) (tSeq (tIfS (tOr (tNot (tB (tCallD sp_is_cell (tCons (tVar 0) (tCons (tVar 7) tNil))))) (tOr (tTest (tOp (rInX K false) (tVar 7) (tVar 3))) (tTest (tOp (rInX K false) (tVar 8) (tOp (rIx K) (tVar 0) (tC (.int 2))))))) (tRet (tC .non)) tNext) (tSeq (tAsg (tOp (rAddX K) (tOp (rAddX K) (tSl (rSlX K) (tVar 3) tNoPart (tPart (tVar 5))) (tTup (tCons (tVar 7) tNil))) (tSl (rSlX K) (tVar 3) (tPart (tOp (rAddX K) (tVar 5) (tC (.int 1)))) tNoPart)) (gName 9)) (tSeq (tAsg (tCallD sp_door_edges (tCons (tVar 0) (tCons (tVar 4) tNil))) (gName 10)) (tSeq (tIfS (tTest (tOp (rInX K true) (tVar 8) (tVar 10))) (tRet (tTup (tCons (tTup (tCons (tVar 9) (tCons (tVar 4) tNil))) (tCons (tC .non) tNil)))) tNext) (tSeq (tAsg (tBM K "list" (rIndexD K) (tVar 10) (tCons (tVar 8) tNil)) (gName 11)) (tSeq (tAsg (tCallD sp_swung_ways (tCons (tVar 0) (tCons (tVar 4) (tCons (tVar 11) (tCons (tVar 6) tNil))))) (gName 12)) (tSeq (tIfS (tTest (tOp rIsN (tVar 12) (tC .non))) (tRet (tC .non)) tNext) (tRet (tTup (tCons (tTup (tCons (tVar 9) (tCons (tVar 12) tNil))) (tCons (tVar 11) tNil)))))))))))))))
def rd_moves_from (K : PySem.W.Frag) (aWAYS : Addr) (sp_step_done : Sp) : TS := (tSeq (tAsg (tLst tNil) (gName 2)) (tSeq (tFor (iRng1 (tCons (tCB (rLenX K) (tCons (tOp (rIx K) (tVar 1) (tC (.int 0))) tNil)) tNil)) (gName 3) (tFor (iTup K (tC (.ref aWAYS))) (gName 4) (tSeq (tAsg (tCallD sp_step_done (tCons (tVar 0) (tCons (tVar 1) (tCons (tTup (tCons (tVar 3) (tCons (tVar 4) tNil))) tNil)))) (gName 5)) (tIfS (tTest (tOp rNotN (tVar 5) (tC .non))) (tDrop (tBM K "list" rAppend (tVar 2) (tCons (tTup (tCons (tTup (tCons (tVar 3) (tCons (tVar 4) tNil))) (tCons (tOp (rIx K) (tVar 5) (tC (.int 0))) (tCons (tOp (rIx K) (tVar 5) (tC (.int 1))) tNil)))) tNil))) tNext)))) (tRet (tVar 2))))
def rd_L_taken (K : PySem.W.Frag) : TS := (tSeq (tIfS (tTest (tOp rGtI (tOp (rIx K) (tVar 0) (tC (.int 3))) (tC (.int 0)))) (tSeq (tAsg (tOp rModI (tOp (rIx K) (tVar 0) (tC (.int 3))) (tVar 1)) (gName 2)) (tSeq (tAsg (tOp rFdivI (tOp (rIx K) (tVar 0) (tC (.int 3))) (tVar 1)) (gSub (tVar 0) (tC (.int 3)) rSetL)) (tRet (tVar 2)))) tNext) (tSeq (tAsg (tOp (rAddX K) (tOp (rIx K) (tVar 0) (tC (.int 1))) (tC (.int 1))) (gSub (tVar 0) (tC (.int 1)) rSetL)) (tSeq (tIfS (tTest (tOp rGtI (tOp (rIx K) (tVar 0) (tC (.int 1))) (tCB (rLenX K) (tCons (tOp (rIx K) (tVar 0) (tC (.int 0))) tNil)))) (tSeq (tAsg (tOp rModI (tOp (rAddX K) (tOp rMulX (tOp (rIx K) (tVar 0) (tC (.int 2))) (tC (.int 48271))) (tC (.int 11))) (tC (.int 2147483647))) (gSub (tVar 0) (tC (.int 2)) rSetL)) (tRet (tOp rModI (tOp rFdivI (tOp (rIx K) (tVar 0) (tC (.int 2))) (tC (.int 7))) (tVar 1)))) tNext) (tSeq (tAsg (tOp (rIx K) (tOp (rIx K) (tVar 0) (tC (.int 0))) (tOp rSubI (tOp (rIx K) (tVar 0) (tC (.int 1))) (tC (.int 1)))) (gName 3)) (tSeq (tAsg (tOp rModI (tOp (rAddX K) (tOp (rAddX K) (tOp rMulX (tOp (rIx K) (tVar 0) (tC (.int 2))) (tC (.int 48271))) (tVar 3)) (tC (.int 11))) (tC (.int 2147483647))) (gSub (tVar 0) (tC (.int 2)) rSetL)) (tSeq (tIfS (tTest (tOp rGeI (tVar 3) (tOp rPowI (tC (.int 10)) (tC (.int 18))))) (tAsg (tOp rFdivI (tVar 3) (tVar 1)) (gSub (tVar 0) (tC (.int 3)) rSetL)) tNext) (tRet (tOp rModI (tVar 3) (tVar 1)))))))))
def rd_L_pair (K : PySem.W.Frag) : TS := (tSeq (tAsg (tVar 0) (gTup K 2 (gCons (gName 2) (gCons (gName 3) gNil)))) (tSeq (tIfS (tTest (tOp (rInX K false) (tVar 1) (tC (.str "ns")))) (tSeq (tAsg (tOp rSubI (tVar 2) (tCB rIntX (tCons (tOp (rEqD K) (tVar 1) (tC (.str "n"))) tNil))) (gName 4)) (tRet (tTup (tCons (tTup (tCons (tVar 4) (tCons (tOp rSubI (tVar 3) (tC (.int 1))) tNil))) (tCons (tTup (tCons (tVar 4) (tCons (tVar 3) tNil))) tNil))))) tNext) (tSeq (tAsg (tOp rSubI (tVar 3) (tCB rIntX (tCons (tOp (rEqD K) (tVar 1) (tC (.str "w"))) tNil))) (gName 5)) (tRet (tTup (tCons (tTup (tCons (tOp rSubI (tVar 2) (tC (.int 1))) (tCons (tVar 5) tNil))) (tCons (tTup (tCons (tVar 2) (tCons (tVar 5) tNil))) tNil)))))))
def rd_L_shut (K : PySem.W.Frag) : TS := (tSeq (tAsg (tVar 0) (gTup K 3 (gCons (gName 1) (gCons (gName 2) (gCons (gName 3) gNil))))) (tRet (tIf (tTest (tOp (rEqD K) (tVar 3) (tC (.str "-")))) (tTup (tCons (tTup (tCons (tOp rSubI (tVar 1) (tC (.int 1))) (tCons (tVar 2) tNil))) (tCons (tTup (tCons (tVar 1) (tCons (tVar 2) tNil))) tNil))) (tTup (tCons (tTup (tCons (tVar 1) (tCons (tOp rSubI (tVar 2) (tC (.int 1))) tNil))) (tCons (tTup (tCons (tVar 1) (tCons (tVar 2) tNil))) tNil))))))
def rd_L_within (K : PySem.W.Frag) : TS := (tSeq (tAsg (tLc (iTup K (tVar 1)) (gName 3) (tAnd (tTest (tChain rLeI rLtI (tC (.int 0)) (tOp (rIx K) (tVar 3) (tC (.int 0))) (tOp (rIx K) (tVar 0) (tC (.int 0))))) (tTest (tChain rLeI rLtI (tC (.int 0)) (tOp (rIx K) (tVar 3) (tC (.int 1))) (tOp (rIx K) (tVar 0) (tC (.int 1)))))) (tVar 3) [3]) (gName 2)) (tRet (tOp (rEqD K) (tCB (rLenX K) (tCons (tVar 2) tNil)) (tC (.int 2)))))
def rd_L_hall (K : PySem.W.Frag) (sp_L_pair : Sp) (sp_L_shut : Sp) (sp_L_taken : Sp) (sp_L_within : Sp) : TS := (tSeq (tPar 3 4 (tCons (tOp (rAddX K) (tC (.int 1)) (tCallD sp_L_taken (tCons (tVar 0) (tCons (tVar 1) tNil)))) (tCons (tOp (rAddX K) (tC (.int 1)) (tCallD sp_L_taken (tCons (tVar 0) (tCons (tVar 1) tNil)))) tNil))) (tSeq (tAsg (tLst tNil) (gName 5)) (tSeq (tFor (iRng1 (tCons (tVar 3) tNil)) (gName 6) (tAsg (tOp (rAddX K) (tOp (rAddX K) (tVar 5) (tLc (iRng1 (tCons (tOp rMulX (tVar 4) (tCB rIntX (tCons (tOp rGtI (tVar 6) (tC (.int 0))) tNil))) tNil)) (gName 14) tYes (tTup (tCons (tVar 6) (tCons (tVar 14) (tCons (tC (.str "-")) tNil)))) [14])) (tLc (iRng2 (tCons (tC (.int 1)) (tCons (tVar 4) tNil))) (gName 14) tYes (tTup (tCons (tVar 6) (tCons (tVar 14) (tCons (tC (.str "|")) tNil)))) [14])) (gName 5))) (tSeq (tPar3 7 8 9 (tCons (tLst tNil) (tCons (tLst tNil) (tCons (tLst tNil) tNil)))) (tSeq (tFor (iRng1 (tCons (tCallD sp_L_taken (tCons (tVar 0) (tCons (tOp (rIx K) (tLst (tCons (tC (.int 1)) (tCons (tC (.int 3)) (tCons (tC (.int 5)) tNil)))) (tCallD sp_L_taken (tCons (tVar 0) (tCons (tC (.int 3)) tNil)))) tNil))) tNil)) (gName 10) (tIfS (tTest (tOp (rNeD K) (tVar 5) (tLst tNil))) (tDrop (tBM K "list" rAppend (tVar 7) (tCons (tBM K "list" rPopAt (tVar 5) (tCons (tCallD sp_L_taken (tCons (tVar 0) (tCons (tCB (rLenX K) (tCons (tVar 5) tNil)) tNil))) tNil)) tNil))) tNext)) (tSeq (tAsg (tLc (iList K (tVar 7)) (gName 13) tYes (tCallD sp_L_shut (tCons (tVar 13) tNil)) [13]) (gName 9)) (tSeq (tFor (iRng1 (tCons (tCallD sp_L_taken (tCons (tVar 0) (tCons (tOp (rAddX K) (tVar 2) (tC (.int 1))) tNil))) tNil)) (gName 10) (tSeq (tAsg (tTup (tCons (tCallD sp_L_taken (tCons (tVar 0) (tCons (tOp (rAddX K) (tVar 3) (tC (.int 1))) tNil))) (tCons (tCallD sp_L_taken (tCons (tVar 0) (tCons (tOp (rAddX K) (tVar 4) (tC (.int 1))) tNil))) (tCons (tOp (rIx K) (tC (.str "ensw")) (tCallD sp_L_taken (tCons (tVar 0) (tCons (tC (.int 4)) tNil)))) tNil)))) (gName 11)) (tSeq (tAsg (tCallD sp_L_pair (tCons (tSl (rSlX K) (tVar 11) tNoPart (tPart (tC (.int 2)))) (tCons (tOp (rIx K) (tVar 11) (tC (.int 2))) tNil))) (gName 12)) (tIfS (tAnd (tB (tCallD sp_L_within (tCons (tTup (tCons (tVar 3) (tCons (tVar 4) tNil))) (tCons (tVar 12) tNil)))) (tTest (tOp (rInX K true) (tVar 12) (tVar 9)))) (tSeq (tDrop (tBM K "list" rAppend (tVar 8) (tCons (tVar 11) tNil))) (tDrop (tBM K "list" rAppend (tVar 9) (tCons (tVar 12) tNil)))) tNext)))) (tRet (tTup (tCons (tVar 3) (tCons (tVar 4) (tCons (tCB (rTupX K) (tCons (tVar 7) tNil)) (tCons (tCB (rTupX K) (tCons (tVar 8) tNil)) tNil)))))))))))))
end Pd
/-! Sem1 -/
set_option Elab.async false
set_option linter.all false
set_option maxRecDepth 100000
set_option maxHeartbeats 4000000
namespace Pd
variable [Pd.Wd]
open PySem PySem.Spec PyProof.Rows L2 PySem.W

/-! ### data of the program's own kinds -/
abbrev Cell := Int × Int
/-- the signs: four ways, two kinds of edges -/
inductive Sg where
  | e | n | s | w | h | v
  deriving DecidableEq
def Sg.code : Sg → Nat
  | .e => 101
  | .n => 110
  | .s => 115
  | .w => 119
  | .h => 45
  | .v => 124
/-- an edge, a door: row, column, a sign -/
abbrev Edge := Int × Int × Sg
def sg (c : Sg) : PyData := .str ⟨#[c.code]⟩
def cellD (c : Cell) : PyData := .tuple [.int c.1, .int c.2]
def edgeD (e : Edge) : PyData := .tuple [.int e.1, .int e.2.1, sg e.2.2]
structure Hall where
  rows : Int
  cols : Int
  walls : List Edge
  doors : List Edge
def hallD (h : Hall) : PyData := .tuple [.int h.rows, .int h.cols, .tuple (h.walls.map edgeD), .tuple (h.doors.map edgeD)]
def wsS (ws : List Sg) : Str := ⟨(ws.map Sg.code).toArray⟩
structure Stand where
  cells : List Cell
  ways : List Sg
def cellsD (cs : List Cell) : PyData := .tuple (cs.map cellD)
def standD (s : Stand) : PyData := .tuple [cellsD s.cells, .str (wsS s.ways)]
def stepD (k : Int) (w : Sg) : PyData := .tuple [.int k, sg w]
def Way (w : Sg) : Prop := w = .e ∨ w = .n ∨ w = .s ∨ w = .w

/-! ### equality -/
theorem eqv_sg (a b : Sg) : PyData.eqv (sg a) (sg b) = decide (a = b) := by
  cases a <;> cases b <;> (simp only [sg, PyData.eqv]; decide +kernel)
theorem lit_n : PyData.str "n" = sg .n := by simp only [sg]; exact congrArg PyData.str (by decide +kernel)
theorem lit_e : PyData.str "e" = sg .e := by simp only [sg]; exact congrArg PyData.str (by decide +kernel)
theorem lit_s : PyData.str "s" = sg .s := by simp only [sg]; exact congrArg PyData.str (by decide +kernel)
theorem lit_w : PyData.str "w" = sg .w := by simp only [sg]; exact congrArg PyData.str (by decide +kernel)
theorem lit_h : PyData.str "-" = sg .h := by simp only [sg]; exact congrArg PyData.str (by decide +kernel)
theorem lit_v : PyData.str "|" = sg .v := by simp only [sg]; exact congrArg PyData.str (by decide +kernel)
theorem eqv_int (a b : Int) : PyData.eqv (.int a) (.int b) = decide (a = b) := by
  simp only [PyData.eqv]
  by_cases h : a = b
  · subst h; simp
  · rw [decide_eq_false h]
    simpa using h
theorem eqv_cell (a b : Cell) : PyData.eqv (cellD a) (cellD b) = decide (a = b) := by
  obtain ⟨a1, a2⟩ := a
  obtain ⟨b1, b2⟩ := b
  simp only [cellD, PyData.eqv, PyData.eqvAll, Bool.and_true]
  by_cases h1 : a1 = b1
  · by_cases h2 : a2 = b2
    · subst h1 h2; simp
    · simp [h2]
  · simp [h1]
theorem eqv_edge (a b : Edge) : PyData.eqv (edgeD a) (edgeD b) = decide (a = b) := by
  obtain ⟨a1, a2, a3⟩ := a
  obtain ⟨b1, b2, b3⟩ := b
  have h3 := eqv_sg a3 b3
  simp only [edgeD, PyData.eqv, PyData.eqvAll, Bool.and_true, h3]
  by_cases h1 : a1 = b1
  · by_cases h2 : a2 = b2
    · by_cases h : a3 = b3
      · subst h1 h2 h; simp
      · simp [h]
    · simp [h2]
  · simp [h1]
def pairD (p : Cell × Cell) : PyData := .tuple [cellD p.1, cellD p.2]
theorem eqv_pair (a b : Cell × Cell) : PyData.eqv (pairD a) (pairD b) = decide (a = b) := by
  obtain ⟨a1, a2⟩ := a
  obtain ⟨b1, b2⟩ := b
  have h1 := eqv_cell a1 b1
  have h2 := eqv_cell a2 b2
  simp only [pairD, PyData.eqv, PyData.eqvAll, Bool.and_true, h1, h2]
  by_cases h1 : a1 = b1
  · by_cases h2 : a2 = b2
    · subst h1 h2; simp
    · simp [h2]
  · simp [h1]
theorem any_enc {α : Type} [DecidableEq α] (enc : α → PyData) (h : ∀ a b, PyData.eqv (enc a) (enc b) = decide (a = b)) (xs : List α) (x : α) : ((xs.map enc).any fun z => PyData.eqv z (enc x)) = decide (x ∈ xs) := by
  induction xs with
  | nil => simp
  | cons y ys ih =>
    rw [List.map_cons, List.any_cons, ih, h]
    by_cases e : x = y
    · subst e
      simp
    · have e' : ¬ y = x := fun z => e z.symm
      simp [e, e']
theorem any_cell (xs : List Cell) (x : Cell) : ((xs.map cellD).any fun z => PyData.eqv z (cellD x)) = decide (x ∈ xs) := (any_enc cellD eqv_cell xs x).trans (decide_eq_decide.mpr Iff.rfl)
theorem any_edge (xs : List Edge) (x : Edge) : ((xs.map edgeD).any fun z => PyData.eqv z (edgeD x)) = decide (x ∈ xs) := (any_enc edgeD eqv_edge xs x).trans (decide_eq_decide.mpr Iff.rfl)
theorem any_pair (xs : List (Cell × Cell)) (x : Cell × Cell) : ((xs.map pairD).any fun z => PyData.eqv z (pairD x)) = decide (x ∈ xs) := (any_enc pairD eqv_pair xs x).trans (decide_eq_decide.mpr Iff.rfl)
/-! ### shapes -/
theorem shaped_of {d : PyData} (h : d.canLay0 = true) (hd : d.depth ≤ 64) : SeqAt.shaped d = true := by
  show (d.canLay0 && decide (d.depth ≤ 64)) = true
  rw [h, decide_eq_true hd]
  rfl
theorem lay_int (i : Int) : (PyData.int i).canLay0 = true := by simp [PyData.canLay0]
theorem lay_sg (c : Sg) : (sg c).canLay0 = true := by cases c <;> (simp only [sg, PyData.canLay0]; decide +kernel)
theorem lay_cell (c : Cell) : (cellD c).canLay0 = true := by simp [cellD, PyData.canLay0, PyData.canLayAll0]
theorem lay_edge (c : Edge) : (edgeD c).canLay0 = true := by simp [edgeD, PyData.canLay0, PyData.canLayAll0, lay_sg]
theorem lay_pair (p : Cell × Cell) : (pairD p).canLay0 = true := by simp [pairD, PyData.canLay0, PyData.canLayAll0, lay_cell]
theorem dep_cell (c : Cell) : (cellD c).depth = 1 := by simp [cellD, PyData.depth, PyData.depthAll]
theorem dep_edge (c : Edge) : (edgeD c).depth = 1 := by simp [edgeD, sg, PyData.depth, PyData.depthAll]
theorem dep_pair (p : Cell × Cell) : (pairD p).depth = 2 := by simp [pairD, PyData.depth, PyData.depthAll, dep_cell]
theorem lay_map {α : Type} (enc : α → PyData) (h : ∀ a, (enc a).canLay0 = true) : ∀ xs : List α, PyData.canLayAll0 (xs.map enc) = true
  | [] => by simp [PyData.canLayAll0]
  | x :: xs => by simp [PyData.canLayAll0, h x, lay_map enc h xs]
theorem dep_map {α : Type} (enc : α → PyData) (n : Nat) (h : ∀ a, (enc a).depth ≤ n) : ∀ xs : List α, PyData.depthAll (xs.map enc) ≤ n
  | [] => by simp [PyData.depthAll]
  | x :: xs => by
    have h1 := h x
    have h2 := dep_map enc n h xs
    simp only [List.map_cons, PyData.depthAll]
    omega
theorem sh_int (i : Int) : SeqAt.shaped (.int i) = true := shaped_of (lay_int i) (by simp [PyData.depth])
theorem sh_sg (c : Sg) : SeqAt.shaped (sg c) = true := shaped_of (lay_sg c) (by simp [sg, PyData.depth])
theorem sh_str (x : Str) (hx : PyData.strOk x = true) : SeqAt.shaped (.str x) = true := shaped_of (by simpa [PyData.canLay0] using hx) (by simp [PyData.depth])
theorem sh_cell (c : Cell) : SeqAt.shaped (cellD c) = true := shaped_of (lay_cell c) (by rw [dep_cell]; decide)
theorem sh_edge (c : Edge) : SeqAt.shaped (edgeD c) = true := shaped_of (lay_edge c) (by rw [dep_edge]; decide)
theorem sh_pair (c : Cell × Cell) : SeqAt.shaped (pairD c) = true := shaped_of (lay_pair c) (by rw [dep_pair]; decide)
theorem sh_tup {α : Type} (enc : α → PyData) (n : Nat) (h : ∀ a, (enc a).canLay0 = true) (hd : ∀ a, (enc a).depth ≤ n) (hn : n < 64) (xs : List α) : SeqAt.shaped (.tuple (xs.map enc)) = true :=
  shaped_of (by simp only [PyData.canLay0]; exact lay_map enc h xs) (by have := dep_map enc n hd xs; simp only [PyData.depth]; omega)
theorem sh_lst {α : Type} (enc : α → PyData) (n : Nat) (h : ∀ a, (enc a).canLay0 = true) (hd : ∀ a, (enc a).depth ≤ n) (hn : n < 64) (xs : List α) : SeqAt.shaped (.list (xs.map enc)) = true :=
  shaped_of (by simp only [PyData.canLay0]; exact lay_map enc h xs) (by have := dep_map enc n hd xs; simp only [PyData.depth]; omega)
theorem sh_cells (xs : List Cell) : SeqAt.shaped (.tuple (xs.map cellD)) = true := sh_tup cellD 1 lay_cell (fun a => Nat.le_of_eq (dep_cell a)) (by decide) xs
theorem sh_edges (xs : List Edge) : SeqAt.shaped (.tuple (xs.map edgeD)) = true := sh_tup edgeD 1 lay_edge (fun a => Nat.le_of_eq (dep_edge a)) (by decide) xs
theorem sh_edgesL (xs : List Edge) : SeqAt.shaped (.list (xs.map edgeD)) = true := sh_lst edgeD 1 lay_edge (fun a => Nat.le_of_eq (dep_edge a)) (by decide) xs
theorem sh_pairsL (xs : List (Cell × Cell)) : SeqAt.shaped (.list (xs.map pairD)) = true := sh_lst pairD 2 lay_pair (fun a => Nat.le_of_eq (dep_pair a)) (by decide) xs
/-! ### isinstance -/
theorem kit_tt : kitB "tuple" "tuple" = some true := by decide +kernel
theorem kit_ii : kitB "int" "int" = some true := by decide +kernel
theorem kit_ib : kitB "int" "bool" = some false := by decide +kernel
theorem kit_it : kitB "int" "tuple" = some false := by decide +kernel
theorem kit_st : kitB "str" "tuple" = some false := by decide +kernel
theorem kit_nt : kitB "NoneType" "tuple" = some false := by decide +kernel
theorem kit_lt : kitB "list" "tuple" = some false := by decide +kernel
theorem kit_ll : kitB "list" "list" = some true := by decide +kernel
theorem kit_tl : kitB "tuple" "list" = some false := by decide +kernel

/-! ### what the defs tell -/
def inH (h : Hall) (c : Cell) : Bool := decide (0 ≤ c.1 ∧ c.1 < h.rows ∧ 0 ≤ c.2 ∧ c.2 < h.cols)
def isEdge (h : Hall) (e : Edge) : Bool := inH h (e.1, e.2.1) && (if e.2.2 = .h then decide (0 < e.1) else decide (e.2.2 = .v) && decide (0 < e.2.1))
def edgeFrom (r c : Int) (w : Sg) : Edge := if w = .n then (r - 1, c, .v) else if w = .e then (r, c, .h) else if w = .s then (r, c, .v) else (r, c - 1, .h)
def crossed (c : Cell) (w : Sg) : Edge := if w = .n then (c.1, c.2, .h) else if w = .e then (c.1, c.2 + 1, .v) else if w = .s then (c.1 + 1, c.2, .h) else (c.1, c.2, .v)
def nextC (c : Cell) (w : Sg) : Cell := if w = .n then (c.1 - 1, c.2) else if w = .e then (c.1, c.2 + 1) else if w = .s then (c.1 + 1, c.2) else (c.1, c.2 - 1)
inductive R_is_number : List PyData → PyData → Prop | mk (i : Int) : R_is_number [.int i] (.bool true)
inductive R_is_side : List PyData → PyData → Prop | mk (i : Int) : R_is_side [.int i] (.bool (decide (1 ≤ i ∧ i ≤ 5)))
inductive R_is_cell : List PyData → PyData → Prop | mk (h : Hall) (c : Cell) : R_is_cell [hallD h, cellD c] (.bool (inH h c))
inductive R_is_edge : List PyData → PyData → Prop | mk (h : Hall) (e : Edge) : R_is_edge [hallD h, edgeD e] (.bool (isEdge h e))
inductive R_edge_from : List PyData → PyData → Prop | mk (r c : Int) (w : Sg) : R_edge_from [.int r, .int c, sg w] (edgeD (edgeFrom r c w))
inductive R_edge_crossed : List PyData → PyData → Prop | mk (c : Cell) (w : Sg) : R_edge_crossed [cellD c, sg w] (edgeD (crossed c w))
inductive R_next_cell : List PyData → PyData → Prop | mk (c : Cell) (w : Sg) : R_next_cell [cellD c, sg w] (cellD (nextC c w))

local macro_rules | `(tactic| walk_at "ed") => `(tactic| repeat' (first
  | with_reducible (first
    | exact ed_int | exact ed_str | exact ed_bl | exact ed_non
    | exact ea_nil | refine' ea_cons ?_ ?_
    | refine' ed_isi ?_ ?_ | refine' ed_isi2 ?_ ?_ ?_
    | refine' ed_andV ?_ (fun _ => ?_) | refine' ed_orV ?_ (fun _ => ?_) | refine' ed_notV ?_
    | refine' ed_chain ?_ ?_ ?_ (fun _ => ⟨?_, ?_⟩)
    | refine' ed_tup ?_ ?_ | refine' ed_lst ?_ ?_
    | refine' et_not ?_ | refine' et_and ?_ (fun _ => ?_) | refine' et_or ?_ (fun _ => ?_) | exact et_yes
    | refine' et_test ?_ | refine' et_B ?_
    | refine' ed_op ?_ ?_ ?_
    | refine' ed_cb ?_ ?_)
  | exact ed_var rfl
  | exact kit_tt | exact kit_ii | exact kit_ib | exact kit_ll | exact kit_lt | exact kit_tl
  | exact r2_addI | exact r2_subI | exact r2_lt | exact r2_le | exact r2_gt | exact r2_ge | exact r2_isN | exact r2_notN
  | exact rc_lenT | exact rc_lenL | exact rc_intB | exact rc_tupL
  | with_reducible (first | refine' r2_eq ?_ ?_ | refine' r2_ne ?_ ?_)
  | exact sh_int _ | exact sh_sg _ | exact sh_cell _ | exact sh_edge _ | exact sh_pair _ | exact sh_str _ (by decide +kernel)
  | exact r2_ixT rfl | exact r2_ixL rfl
  | (show List.length _ ≤ 100000; simp; done)))
section
variable {K : PySem.W.Frag}
theorem rp_is_number {ds : List PyData} {d : PyData} (h : R_is_number ds d) : RD (rd_is_number K) (ds.map some ++ List.replicate (1 - ds.length) none) d := by
  obtain ⟨i⟩ := h
  exact rd_ret (ED.is (by walk_at "ed") (by rfl))
theorem rp_is_side {ds : List PyData} {d : PyData} (h : R_is_side ds d) : RD (rd_is_side K (spR R_is_number)) (ds.map some ++ List.replicate (1 - ds.length) none) d := by
  obtain ⟨i⟩ := h
  refine rd_ret (ED.is (ed_andV (ed_call (by walk_at "ed") (.mk i)) fun _ => by walk_at "ed") ?_)
  by_cases h1 : 1 ≤ i
  · by_cases h2 : i ≤ 5
    · simp [h1, h2]
    · simp [h1, h2]
  · simp [h1]
theorem rp_is_cell {ds : List PyData} {d : PyData} (h : R_is_cell ds d) : RD (rd_is_cell K (spR R_is_number)) (ds.map some ++ List.replicate (4 - ds.length) none) d := by
  obtain ⟨h, c⟩ := h
  refine rd_ifS (b := false) (ET.is (by walk_at "ed") (by simp [eqv_int])) (fun z => nomatch z) (fun _ => ?_)
  refine rd_seq (sd_asg (d := cellD c) (by walk_at "ed") (gd_tup (vs := [2, 3]) (gds_cons (gd_name (by simp)) (gds_cons (gd_name (by simp)) gds_nil)) rfl)) ?_
  refine rd_ifS (b := false) (ET.is (et_or (et_not (et_B (ed_call (by walk_at "ed") (.mk c.1)))) fun _ => et_not (et_B (ed_call (by walk_at "ed") (.mk c.2)))) rfl) (fun z => nomatch z) (fun _ => ?_)
  refine rd_ret (ED.is (by walk_at "ed") ?_)
  by_cases h1 : 0 ≤ c.1
  · by_cases h2 : c.1 < h.rows
    · by_cases h3 : 0 ≤ c.2
      · by_cases h4 : c.2 < h.cols
        · simp [inH, h1, h2, h3, h4]
        · simp [inH, h1, h2, h3, h4]
      · simp [inH, h1, h2, h3]
    · simp [inH, h1, h2]
  · simp [inH, h1]
end
end Pd
/-! Sem2 -/
set_option Elab.async false
set_option linter.all false
set_option maxRecDepth 100000
set_option maxHeartbeats 4000000
namespace Pd
variable [Pd.Wd]
open PySem PySem.Spec PyProof.Rows L2 PySem.W
local macro_rules | `(tactic| walk_at "ed") => `(tactic| repeat' (first
  | with_reducible (first
    | exact ed_int | exact ed_str | exact ed_bl | exact ed_non
    | exact ea_nil | refine' ea_cons ?_ ?_
    | refine' ed_isi ?_ ?_ | refine' ed_isi2 ?_ ?_ ?_
    | refine' ed_andV ?_ (fun _ => ?_) | refine' ed_orV ?_ (fun _ => ?_) | refine' ed_notV ?_
    | refine' ed_chain ?_ ?_ ?_ (fun _ => ⟨?_, ?_⟩)
    | refine' ed_tup ?_ ?_ | refine' ed_lst ?_ ?_
    | refine' et_not ?_ | refine' et_and ?_ (fun _ => ?_) | refine' et_or ?_ (fun _ => ?_) | exact et_yes
    | refine' et_test ?_ | refine' et_B ?_
    | refine' ed_op ?_ ?_ ?_
    | refine' ed_cb ?_ ?_)
  | exact ed_var rfl
  | exact kit_tt | exact kit_ii | exact kit_ib | exact kit_ll | exact kit_lt | exact kit_tl
  | exact r2_addI | exact r2_subI | exact r2_lt | exact r2_le | exact r2_gt | exact r2_ge | exact r2_isN | exact r2_notN
  | exact rc_lenT | exact rc_lenL | exact rc_intB | exact rc_tupL
  | with_reducible (first | refine' r2_eq ?_ ?_ | refine' r2_ne ?_ ?_)
  | exact sh_int _ | exact sh_sg _ | exact sh_cell _ | exact sh_edge _ | exact sh_pair _ | exact sh_str _ (by decide +kernel)
  | exact r2_ixT rfl | exact r2_ixL rfl
  | refine' ed_tup ?_ ?_
  | (show List.length _ ≤ 100000; simp; done)))
section
variable {K : PySem.W.Frag}
theorem rp_is_edge {ds : List PyData} {d : PyData} (h : R_is_edge ds d) : RD (rd_is_edge K (spR R_is_cell)) (ds.map some ++ List.replicate (5 - ds.length) none) d := by
  obtain ⟨h, e⟩ := h
  refine rd_ifS (b := false) (ET.is (by walk_at "ed") (by simp [eqv_int])) (fun z => nomatch z) (fun _ => ?_)
  refine rd_seq (sd_asg (d := edgeD e) (by walk_at "ed") (gd_tup (vs := [2, 3, 4]) (gds_cons (gd_name (by simp)) (gds_cons (gd_name (by simp)) (gds_cons (gd_name (by simp)) gds_nil))) rfl)) ?_
  refine rd_ifS (b := !inH h (e.1, e.2.1)) (et_not (et_B (ed_call (by walk_at "ed") (.mk h (e.1, e.2.1))))) (fun hb => ?_) (fun hb => ?_)
  · refine rd_ret (ED.is ed_bl ?_)
    have : inH h (e.1, e.2.1) = false := by simpa using hb
    simp [isEdge, this]
  · have hi : inH h (e.1, e.2.1) = true := by simpa using hb
    refine rd_ifS (b := decide (e.2.2 = .h)) (ET.is (by walk_at "ed") (by rw [lit_h, eqv_sg])) (fun hc => ?_) (fun hc => ?_)
    · refine rd_ret (ED.is (by walk_at "ed") ?_)
      have := of_decide_eq_true hc
      simp [isEdge, hi, this]
    · refine rd_ret (ED.is (by walk_at "ed") ?_)
      have := of_decide_eq_false hc
      rw [lit_v, eqv_sg]
      simp [isEdge, hi, this]
theorem rp_edge_from {ds : List PyData} {d : PyData} (h : R_edge_from ds d) : RD (rd_edge_from K) (ds.map some ++ List.replicate (3 - ds.length) none) d := by
  obtain ⟨r, c, w⟩ := h
  refine rd_ifS (b := decide (w = .n)) (ET.is (by walk_at "ed") (by rw [lit_n, eqv_sg])) (fun hb => ?_) (fun hb => ?_)
  · rw [of_decide_eq_true hb]
    exact rd_ret (ED.is (by walk_at "ed") (by rw [lit_v]; rfl))
  · have h1 := of_decide_eq_false hb
    refine rd_ifS (b := decide (w = .e)) (ET.is (by walk_at "ed") (by rw [lit_e, eqv_sg])) (fun hb => ?_) (fun hb => ?_)
    · rw [of_decide_eq_true hb]
      exact rd_ret (ED.is (by walk_at "ed") (by rw [lit_h]; rfl))
    · have h2 := of_decide_eq_false hb
      refine rd_ifS (b := decide (w = .s)) (ET.is (by walk_at "ed") (by rw [lit_s, eqv_sg])) (fun hb => ?_) (fun hb => ?_)
      · rw [of_decide_eq_true hb]
        exact rd_ret (ED.is (by walk_at "ed") (by rw [lit_v]; rfl))
      · have h3 := of_decide_eq_false hb
        exact rd_ret (ED.is (by walk_at "ed") (by rw [lit_h]; simp [edgeFrom, h1, h2, h3, edgeD]))
theorem rp_edge_crossed {ds : List PyData} {d : PyData} (h : R_edge_crossed ds d) : RD (rd_edge_crossed K) (ds.map some ++ List.replicate (4 - ds.length) none) d := by
  obtain ⟨c, w⟩ := h
  refine rd_seq (sd_asg (d := cellD c) (by walk_at "ed") (gd_tup (vs := [2, 3]) (gds_cons (gd_name (by simp)) (gds_cons (gd_name (by simp)) gds_nil)) rfl)) ?_
  refine rd_ifS (b := decide (w = .n)) (ET.is (by walk_at "ed") (by rw [lit_n, eqv_sg])) (fun hb => ?_) (fun hb => ?_)
  · rw [of_decide_eq_true hb]
    exact rd_ret (ED.is (by walk_at "ed") (by rw [lit_h]; rfl))
  · have h1 := of_decide_eq_false hb
    refine rd_ifS (b := decide (w = .e)) (ET.is (by walk_at "ed") (by rw [lit_e, eqv_sg])) (fun hb => ?_) (fun hb => ?_)
    · rw [of_decide_eq_true hb]
      exact rd_ret (ED.is (by walk_at "ed") (by rw [lit_v]; rfl))
    · have h2 := of_decide_eq_false hb
      refine rd_ifS (b := decide (w = .s)) (ET.is (by walk_at "ed") (by rw [lit_s, eqv_sg])) (fun hb => ?_) (fun hb => ?_)
      · rw [of_decide_eq_true hb]
        exact rd_ret (ED.is (by walk_at "ed") (by rw [lit_h]; rfl))
      · have h3 := of_decide_eq_false hb
        exact rd_ret (ED.is (by walk_at "ed") (by rw [lit_v]; simp [crossed, h1, h2, h3, edgeD]))
theorem rp_next_cell {ds : List PyData} {d : PyData} (h : R_next_cell ds d) : RD (rd_next_cell K) (ds.map some ++ List.replicate (4 - ds.length) none) d := by
  obtain ⟨c, w⟩ := h
  refine rd_seq (sd_asg (d := cellD c) (by walk_at "ed") (gd_tup (vs := [2, 3]) (gds_cons (gd_name (by simp)) (gds_cons (gd_name (by simp)) gds_nil)) rfl)) ?_
  refine rd_ifS (b := decide (w = .n)) (ET.is (by walk_at "ed") (by rw [lit_n, eqv_sg])) (fun hb => ?_) (fun hb => ?_)
  · rw [of_decide_eq_true hb]
    exact rd_ret (ED.is (by walk_at "ed") (by rfl))
  · have h1 := of_decide_eq_false hb
    refine rd_ifS (b := decide (w = .e)) (ET.is (by walk_at "ed") (by rw [lit_e, eqv_sg])) (fun hb => ?_) (fun hb => ?_)
    · rw [of_decide_eq_true hb]
      exact rd_ret (ED.is (by walk_at "ed") (by rfl))
    · have h2 := of_decide_eq_false hb
      refine rd_ifS (b := decide (w = .s)) (ET.is (by walk_at "ed") (by rw [lit_s, eqv_sg])) (fun hb => ?_) (fun hb => ?_)
      · rw [of_decide_eq_true hb]
        exact rd_ret (ED.is (by walk_at "ed") (by rfl))
      · have h3 := of_decide_eq_false hb
        exact rd_ret (ED.is (by walk_at "ed") (by simp [nextC, h1, h2, h3, cellD]))
/-! ### doors on their edges, the first standing -/
inductive R_door_edge : List PyData → PyData → Prop | mk (e : Edge) (h : Way e.2.2) : R_door_edge [edgeD e] (edgeD (edgeFrom e.1 e.2.1 e.2.2))
theorem in_ways {neg : Bool} (w : Sg) (h : Way w) : (if neg then !inV (.str ⟨#[w.code]⟩) [.str "e", .str "n", .str "s", .str "w"] else inV (.str ⟨#[w.code]⟩) [.str "e", .str "n", .str "s", .str "w"]) = !neg := by
  have e : inV (.str ⟨#[w.code]⟩) [.str "e", .str "n", .str "s", .str "w"] = true := by
    rcases h with rfl | rfl | rfl | rfl <;> decide +kernel
  rw [e]
  cases neg <;> rfl
theorem ed_inWays {ρ : Rho} {te : TE} {neg : Bool} {aW : Addr} {w : Sg} (hT : ∀ H : Hp, SqT K H aW [.str "e", .str "n", .str "s", .str "w"]) (h : ED te ρ (sg w)) (hw : Way w) : ED (tOp (rInX K neg) te (tC (.ref aW))) ρ (.bool (!neg)) :=
  ED.is (ed_inK h hT (by decide)) (congrArg PyData.bool (in_ways w hw))
theorem rp_door_edge {aW : Addr} (hT : ∀ H : Hp, SqT K H aW [.str "e", .str "n", .str "s", .str "w"]) {ds : List PyData} {d : PyData} (h : R_door_edge ds d) :
    RD (rd_door_edge K aW (spR R_edge_from) (spR R_is_number)) (ds.map some ++ List.replicate (4 - ds.length) none) d := by
  obtain ⟨e, hw⟩ := h
  refine rd_ifS (b := false) (ET.is (by walk_at "ed") (by simp [eqv_int])) (fun z => nomatch z) (fun _ => ?_)
  refine rd_seq (sd_asg (d := edgeD e) (by walk_at "ed") (gd_tup (vs := [1, 2, 3]) (gds_cons (gd_name (by simp)) (gds_cons (gd_name (by simp)) (gds_cons (gd_name (by simp)) gds_nil))) rfl)) ?_
  refine rd_ifS (b := false) (ET.is (et_or (et_not (et_B (ed_call (by walk_at "ed") (.mk e.1)))) fun _ => et_or (et_not (et_B (ed_call (by walk_at "ed") (.mk e.2.1)))) fun _ => et_test (ed_inWays hT (w := e.2.2) (by walk_at "ed") hw)) rfl) (fun z => nomatch z) (fun _ => ?_)
  exact rd_ret (ed_call (by walk_at "ed") (.mk e.1 e.2.1 e.2.2))
theorem wsS_cons (w : Sg) (ws : List Sg) : (⟨#[w.code]⟩ : Str) ++ wsS ws = wsS (w :: ws) := by
  show (⟨#[w.code] ++ (ws.map Sg.code).toArray⟩ : Str) = ⟨((w :: ws).map Sg.code).toArray⟩
  simp
theorem wsS_append (a b : List Sg) : wsS a ++ wsS b = wsS (a ++ b) := by
  show (⟨(a.map Sg.code).toArray ++ (b.map Sg.code).toArray⟩ : Str) = ⟨((a ++ b).map Sg.code).toArray⟩
  simp
theorem join_charsL : ∀ ws : List Sg, Str.join ("" : Str) (ws.map fun w => (⟨#[w.code]⟩ : Str)) = wsS ws
  | [] => rfl
  | [w] => rfl
  | w :: x :: ws => by
    have ih := join_charsL (x :: ws)
    show (⟨#[w.code]⟩ : Str) ++ ("" : Str) ++ Str.join ("" : Str) ((x :: ws).map fun w => (⟨#[w.code]⟩ : Str)) = _
    rw [ih, ← wsS_cons w (x :: ws)]
    have e : (⟨#[w.code]⟩ : Str) ++ ("" : Str) = ⟨#[w.code]⟩ := by
      have e : ("" : Str) = ⟨#[]⟩ := by decide +kernel
      rw [e]
      show (⟨#[w.code] ++ #[]⟩ : Str) = _
      simp
    rw [e]
theorem join_chars (ws : List Sg) : Txt.join ("" : Str) (ws.map fun w => (⟨#[w.code]⟩ : Str)) = wsS ws := by
  exact (TL.join_eq _ _).trans (join_charsL ws)
inductive R_first_standing : List PyData → PyData → Prop | mk (h : Hall) (cs : List Cell) (hd : h.doors.length ≤ 100) : R_first_standing [hallD h, cellsD cs] (standD ⟨cs, h.doors.map fun e => e.2.2⟩)
theorem sum_ones : ∀ ws : List Sg, ((ws.map fun w => (⟨#[w.code]⟩ : Str)).map (·.length)).sum = ws.length
  | [] => rfl
  | w :: ws => by
    rw [List.map_cons, List.map_cons, List.sum_cons, sum_ones ws, List.length_cons]
    show 1 + ws.length = ws.length + 1
    omega
theorem ed_doorWays {ρ : Rho} {te : TE} {i : Nat} {h : Hall} (hd : h.doors.length ≤ 100) (hh : ED te ρ (.tuple (h.doors.map edgeD))) (hi : i < ρ.length) :
    ED (tM1 (rJoin K) (tC (.str "")) (tLc (iTup K te) (gName i) tYes (tOp (rIx K) (tVar i) (tC (.int 2))) [i])) ρ (.str (wsS (h.doors.map fun e => e.2.2))) := by
  have h1 : ED (tLc (iTup K te) (gName i) tYes (tOp (rIx K) (tVar i) (tC (.int 2))) [i]) ρ (.list (((h.doors.map fun e => e.2.2).map fun w => (⟨#[w.code]⟩ : Str)).map PyData.str)) := by
    refine ED.is (ed_lcM h.doors edgeD (fun e => sg e.2.2) (ie_tup hh) (by omega) fun e _ => ⟨_, gd_name (by simp), ed_op (ed_var (List.getElem?_set_self (by simp [wipeR, hi]))) ed_int (r2_ixT rfl)⟩) ?_
    rw [List.map_map, List.map_map]
    rfl
  have h2 := ed_join (K := K) (a := "") h1 (by rw [sum_ones, List.length_map, List.length_map]; show h.doors.length + h.doors.length * 0 ≤ _; omega)
  rw [join_chars] at h2
  exact h2
theorem rp_first_standing {ds : List PyData} {d : PyData} (h : R_first_standing ds d) : RD (rd_first_standing K) (ds.map some ++ List.replicate (3 - ds.length) none) d := by
  obtain ⟨h, cs, hd⟩ := h
  refine rd_ret (ED.is (ed_tup (ea_cons (ed_var rfl) (ea_cons (ed_doorWays (h := h) hd (by walk_at "ed") (by simp)) ea_nil)) (by simp)) rfl)
end
end Pd
/-! Sem3 -/
set_option Elab.async false
set_option linter.all false
set_option maxRecDepth 100000
set_option maxHeartbeats 4000000
namespace Pd
variable [Pd.Wd]
open PySem PySem.Spec PyProof.Rows L2 PySem.W
local macro_rules | `(tactic| walk_at "ed") => `(tactic| repeat' (first
  | with_reducible (first
    | exact ed_int | exact ed_str | exact ed_bl | exact ed_non
    | exact ea_nil | refine' ea_cons ?_ ?_
    | refine' ed_isi ?_ ?_ | refine' ed_isi2 ?_ ?_ ?_
    | refine' ed_andV ?_ (fun _ => ?_) | refine' ed_orV ?_ (fun _ => ?_) | refine' ed_notV ?_
    | refine' ed_chain ?_ ?_ ?_ (fun _ => ⟨?_, ?_⟩)
    | refine' ed_tup ?_ ?_ | refine' ed_lst ?_ ?_
    | refine' et_not ?_ | refine' et_and ?_ (fun _ => ?_) | refine' et_or ?_ (fun _ => ?_) | exact et_yes
    | refine' et_test ?_ | refine' et_B ?_
    | refine' ed_op ?_ ?_ ?_
    | refine' ed_cb ?_ ?_)
  | exact ed_var rfl
  | exact kit_tt | exact kit_ii | exact kit_ib | exact kit_ll | exact kit_lt | exact kit_tl
  | exact r2_addI | exact r2_subI | exact r2_lt | exact r2_le | exact r2_gt | exact r2_ge | exact r2_isN | exact r2_notN
  | exact rc_lenT | exact rc_lenL | exact rc_intB | exact rc_tupL
  | with_reducible (first | refine' r2_eq ?_ ?_ | refine' r2_ne ?_ ?_)
  | exact sh_int _ | exact sh_sg _ | exact sh_cell _ | exact sh_edge _ | exact sh_pair _ | exact sh_str _ (by decide +kernel)
  | exact r2_ixT rfl | exact r2_ixL rfl
  | refine' ed_tup ?_ ?_
  | (show List.length _ ≤ 100000; simp; done)))
section
variable {K : PySem.W.Frag}
/-! ### doors' edges, a swing, a step -/
def doorEdges (ds : List Edge) (ws : List Sg) : List Edge := List.zipWith (fun d w => edgeFrom d.1 d.2.1 w) ds ws
inductive R_door_edges : List PyData → PyData → Prop | mk (h : Hall) (ws : List Sg) (hd : h.doors.length ≤ 100) : R_door_edges [hallD h, .str (wsS ws)] (.list ((doorEdges h.doors ws).map edgeD))
theorem rp_door_edges {ds : List PyData} {d : PyData} (h : R_door_edges ds d) : RD (rd_door_edges K (spR R_edge_from)) (ds.map some ++ List.replicate (4 - ds.length) none) d := by
  obtain ⟨h, ws, hd⟩ := h
  have hi : IE (iZipTS K (tCons (tOp (rIx K) (tVar 0) (tC (.int 3))) (tCons (tVar 1) tNil))) [some (hallD h), some (.str (wsS ws)), none, none] ((List.zip h.doors ws).map fun p => .tuple [edgeD p.1, sg p.2]) := by
    have h1 := ie_zipTS (K := K) (ρ := [some (hallD h), some (.str (wsS ws)), none, none]) (ta := tCons (tOp (rIx K) (tVar 0) (tC (.int 3))) (tCons (tVar 1) tNil)) (ds := h.doors.map edgeD) (x := wsS ws) (by walk_at "ed")
    have e : List.zipWith (fun d c => PyData.tuple [d, .str ⟨#[c]⟩]) (h.doors.map edgeD) (wsS ws).cps.toList = (List.zip h.doors ws).map fun p => .tuple [edgeD p.1, sg p.2] := by
      show List.zipWith _ (h.doors.map edgeD) ((ws.map Sg.code).toArray.toList) = _
      rw [List.toList_toArray, List.zipWith_map, List.zip, List.map_zipWith]
      rfl
    rw [e] at h1
    exact h1
  refine rd_ret (ED.is (ed_lcM (List.zip h.doors ws) (fun p => .tuple [edgeD p.1, sg p.2]) (fun p => edgeD (edgeFrom p.1.1 p.1.2.1 p.2)) hi (by rw [List.length_zip]; omega) fun p _ => ⟨_, gd_tup (gds_cons (gd_name (by simp)) (gds_cons (gd_name (by simp)) gds_nil)) rfl, ed_call (by walk_at "ed") (.mk p.1.1 p.1.2.1 p.2)⟩) ?_)
  show PyData.list _ = PyData.list _
  congr 1
  simp only [doorEdges, List.zip, List.map_zipWith]
def swung (h : Hall) (ws : List Sg) (d : Nat) (w : Sg) : Option (List Sg) :=
  match h.doors[d]? with
  | none => none
  | some e => if isEdge h (edgeFrom e.1 e.2.1 w) = false ∨ edgeFrom e.1 e.2.1 w ∈ h.walls ∨ edgeFrom e.1 e.2.1 w ∈ doorEdges h.doors ws then none else some (ws.set d w)
def optWs : Option (List Sg) → PyData
  | none => .none
  | some ws => .str (wsS ws)
inductive R_swung_ways : List PyData → PyData → Prop
  | mk (h : Hall) (ws : List Sg) (d : Nat) (w : Sg) (hd : h.doors.length ≤ 100) (hw : ws.length = h.doors.length) (hl : d < h.doors.length) : R_swung_ways [hallD h, .str (wsS ws), .int d, sg w] (optWs (swung h ws d w))
theorem len_wsS (ws : List Sg) : (wsS ws).length = ws.length := by
  show ((ws.map Sg.code).toArray).size = ws.length
  simp
theorem cut_ways (ws : List Sg) (d : Nat) (w : Sg) (hl : d < ws.length) : cutS (wsS ws) none (some (d : Int)) ++ (⟨#[w.code]⟩ : Str) ++ cutS (wsS ws) (some ((d : Int) + 1)) none = wsS (ws.set d w) := by
  have e1 : cutS (wsS ws) none (some (d : Int)) = wsS (ws.take d) := by
    unfold cutS
    rw [len_wsS, HT.sIx_none, HT.sIx_nat]
    show (⟨(((ws.map Sg.code).toArray.toList.drop 0).take (min d ws.length - 0)).toArray⟩ : Str) = ⟨((ws.take d).map Sg.code).toArray⟩
    rw [List.toList_toArray, List.drop_zero, Nat.min_eq_left (by omega), Nat.sub_zero, List.map_take]
  have e2 : cutS (wsS ws) (some ((d : Int) + 1)) none = wsS (ws.drop (d + 1)) := by
    unfold cutS
    have e : ((d : Int) + 1) = ((d + 1 : Nat) : Int) := by omega
    rw [len_wsS, e, HT.sIx_nat, HT.sIx_none]
    show (⟨(((ws.map Sg.code).toArray.toList.drop (min (d + 1) ws.length)).take (ws.length - min (d + 1) ws.length)).toArray⟩ : Str) = ⟨((ws.drop (d + 1)).map Sg.code).toArray⟩
    rw [List.toList_toArray, Nat.min_eq_left (by omega), List.map_drop, List.take_of_length_le (by simp)]
  rw [e1, e2, show (⟨#[w.code]⟩ : Str) = wsS [w] from rfl, wsS_append, wsS_append]
  congr 1
  rw [List.set_eq_take_append_cons_drop, if_pos hl]
  simp
theorem rp_swung_ways {ds : List PyData} {d : PyData} (h : R_swung_ways ds d) : RD (rd_swung_ways K (spR R_door_edges) (spR R_edge_from) (spR R_is_edge)) (ds.map some ++ List.replicate (8 - ds.length) none) d := by
  obtain ⟨h, ws, d, w, hd, hw, hl⟩ := h
  have he : h.doors[d]? = some h.doors[d] := List.getElem?_eq_getElem hl
  generalize h.doors[d] = e at he
  have hat : atI (h.doors.map edgeD) (d : Int) = some (edgeD e) := atI_nat (by rw [List.getElem?_map, he]; rfl)
  refine rd_seq (sd_asg (d := edgeD e) (ed_op (by walk_at "ed") (ed_var rfl) (r2_ixT hat)) (gd_tup (vs := [4, 5, 6]) (gds_cons (gd_name (by simp)) (gds_cons (gd_name (by simp)) (gds_cons (gd_name (by simp)) gds_nil))) rfl)) ?_
  refine rd_seq (sd_set (ed_call (by walk_at "ed") (.mk e.1 e.2.1 w))) ?_
  have h1 : ET (tOr (tNot (tB (tCallD (spR R_is_edge) (tCons (tVar 0) (tCons (tVar 7) tNil))))) (tOr (tTest (tOp (rInX K false) (tVar 7) (tOp (rIx K) (tVar 0) (tC (.int 2))))) (tTest (tOp (rInX K false) (tVar 7) (tCallD (spR R_door_edges) (tCons (tVar 0) (tCons (tVar 1) tNil)))))))
      [some (hallD h), some (.str (wsS ws)), some (.int d), some (sg w), some (.int e.1), some (.int e.2.1), some (sg e.2.2), some (edgeD (edgeFrom e.1 e.2.1 w))]
      (!isEdge h (edgeFrom e.1 e.2.1 w) || (decide (edgeFrom e.1 e.2.1 w ∈ h.walls) || decide (edgeFrom e.1 e.2.1 w ∈ doorEdges h.doors ws))) := by
    refine et_or (et_not (et_B (ed_call (by walk_at "ed") (.mk h _)))) fun _ => et_or (et_test ?_) fun _ => et_test ?_
    · exact ED.is (ed_op (ed_var rfl) (ed_op (ed_var rfl) ed_int (r2_ixT rfl)) (r2_inT (sh_edge _) (sh_edges _))) (congrArg PyData.bool (any_edge _ _))
    · exact ED.is (ed_op (ed_var rfl) (ed_call (by walk_at "ed") (.mk h ws hd)) (r2_inL (sh_edge _) (sh_edgesL _))) (congrArg PyData.bool (any_edge _ _))
  refine rd_ifS h1 (fun hb => ?_) (fun hb => ?_)
  · refine rd_ret (ED.is ed_non ?_)
    have hc : isEdge h (edgeFrom e.1 e.2.1 w) = false ∨ edgeFrom e.1 e.2.1 w ∈ h.walls ∨ edgeFrom e.1 e.2.1 w ∈ doorEdges h.doors ws := by
      simpa [Bool.or_eq_true] using hb
    simp only [swung, he]
    rw [if_pos hc]
    rfl
  · have hc : ¬ (isEdge h (edgeFrom e.1 e.2.1 w) = false ∨ edgeFrom e.1 e.2.1 w ∈ h.walls ∨ edgeFrom e.1 e.2.1 w ∈ doorEdges h.doors ws) := fun z => by
      rcases z with z | z | z
      · simp [z] at hb
      · simp [z] at hb
      · simp [z] at hb
    have hwl : d < ws.length := by omega
    have l0 := len_wsS ws
    have l1 : (cutS (wsS ws) none (some (d : Int))).length ≤ ws.length := by rw [← l0]; exact cutS_length _ _ _
    have l2 : (cutS (wsS ws) (some ((d : Int) + 1)) none).length ≤ ws.length := by rw [← l0]; exact cutS_length _ _ _
    refine rd_ret (ED.is (ed_op (ed_op (ed_slS (ed_var rfl) eo_none (eo_some (ed_var rfl)) (by rw [l0]; omega)) (ed_var (d := sg w) rfl) (r2_addS ?_)) (ed_slS (ed_var rfl) (eo_some (ed_op (ed_var rfl) ed_int r2_addI)) eo_none (by rw [l0]; omega)) (r2_addS ?_)) ?_)
    · show _ + 1 ≤ 100000
      omega
    · have e3 : (cutS (wsS ws) none (some (d : Int)) ++ (⟨#[w.code]⟩ : Str)).length = (cutS (wsS ws) none (some (d : Int))).length + 1 := by
        show (_ ++ #[w.code] : Array Nat).size = _
        rw [Array.size_append]
        rfl
      rw [e3]
      omega
    · rw [cut_ways ws d w hwl]
      simp only [swung, he]
      rw [if_neg hc]
      rfl
/-- a step: the standing behind it, the door that swings -/
def stepDone (h : Hall) (s : Stand) (k : Nat) (w : Sg) : Option (Stand × Option Nat) :=
  match s.cells[k]? with
  | none => none
  | some c =>
    if inH h (nextC c w) = false ∨ nextC c w ∈ s.cells ∨ crossed c w ∈ h.walls then none
    else match (doorEdges h.doors s.ways).findIdx? (· == crossed c w) with
      | none => some (⟨s.cells.set k (nextC c w), s.ways⟩, none)
      | some d => (swung h s.ways d w).map fun ws => (⟨s.cells.set k (nextC c w), ws⟩, some d)
def optN : Option Nat → PyData
  | none => .none
  | some n => .int n
def doneD : Option (Stand × Option Nat) → PyData
  | none => .none
  | some p => .tuple [standD p.1, optN p.2]
end
end Pd
/-! Sem4 -/
set_option Elab.async false
set_option linter.all false
set_option maxRecDepth 100000
set_option maxHeartbeats 4000000
namespace Pd
variable [Pd.Wd]
open PySem PySem.Spec PyProof.Rows L2 PySem.W
local macro_rules | `(tactic| walk_at "ed") => `(tactic| repeat' (first
  | with_reducible (first
    | exact ed_int | exact ed_str | exact ed_bl | exact ed_non
    | exact ea_nil | refine' ea_cons ?_ ?_
    | refine' ed_isi ?_ ?_ | refine' ed_isi2 ?_ ?_ ?_
    | refine' ed_andV ?_ (fun _ => ?_) | refine' ed_orV ?_ (fun _ => ?_) | refine' ed_notV ?_
    | refine' ed_chain ?_ ?_ ?_ (fun _ => ⟨?_, ?_⟩)
    | refine' ed_tup ?_ ?_ | refine' ed_lst ?_ ?_
    | refine' et_not ?_ | refine' et_and ?_ (fun _ => ?_) | refine' et_or ?_ (fun _ => ?_) | exact et_yes
    | refine' et_test ?_ | refine' et_B ?_
    | refine' ed_op ?_ ?_ ?_
    | refine' ed_cb ?_ ?_)
  | exact ed_var rfl
  | exact kit_tt | exact kit_ii | exact kit_ib | exact kit_ll | exact kit_lt | exact kit_tl
  | exact r2_addI | exact r2_subI | exact r2_lt | exact r2_le | exact r2_gt | exact r2_ge | exact r2_isN | exact r2_notN
  | exact rc_lenT | exact rc_lenL | exact rc_intB | exact rc_tupL
  | with_reducible (first | refine' r2_eq ?_ ?_ | refine' r2_ne ?_ ?_)
  | exact sh_int _ | exact sh_sg _ | exact sh_cell _ | exact sh_edge _ | exact sh_pair _ | exact sh_str _ (by decide +kernel)
  | exact r2_ixT rfl | exact r2_ixL rfl
  | refine' ed_tup ?_ ?_
  | (show List.length _ ≤ 100000; simp; done)))
theorem ed_index {K : PySem.W.Frag} {ρ : Rho} {to te : TE} {ds : List PyData} {d z : PyData} {j : Nat} (h : ED to ρ (.list ds)) (hd : ED te ρ d) (sl : SeqAt.shaped (.list ds) = true) (sd : SeqAt.shaped d = true) (hz : ds[j]? = some z) (he : PyData.eqv z d = true)
    (hno : ∀ (m : Nat) (z' : PyData), m < j → ds[m]? = some z' → PyData.eqv z' d = false) : ED (tBM K "list" (rIndexD K) to (tCons te tNil)) ρ (.int (j : Nat)) := fun σ B H ex ev Q q => by
  refine h σ B H ex ev _ fun v B1 H1 g1 d1 => ?_
  have dl := d1
  cases d1 with
  | @lst a xs _ ha hs =>
    refine ⟨.inl ⟨rfl, _, SqL.of (g1.t _ _ ha)⟩, ?_⟩
    refine hd σ B1 H1 g1.t (ev.mono g1.b) _ fun y B2 H2 g2 d2 => ?_
    exact ⟨a, y, d, ds, j, z, rfl, rfl, ((dl.mono g2.b).mono g2.t).dp (SeqAt.canLay_of_shaped sl), (d2.mono g2.t).dp (SeqAt.canLay_of_shaped sd), sl, sd, hz, he, hno, q _ B2 H2 (g1.trans g2) (.int _)⟩
theorem cut_cells (cs : List Cell) (k : Nat) (a : Cell) (hk : k < cs.length) : cutD (cs.map cellD) none (some (k : Int)) ++ [cellD a] ++ cutD (cs.map cellD) (some ((k : Int) + 1)) none = (cs.set k a).map cellD := by
  have e1 : cutD (cs.map cellD) none (some (k : Int)) = (cs.take k).map cellD := by
    unfold cutD
    rw [HT.sIx_none, HT.sIx_nat, List.drop_zero, List.length_map, Nat.min_eq_left (by omega), Nat.sub_zero, List.map_take]
  have e2 : cutD (cs.map cellD) (some ((k : Int) + 1)) none = (cs.drop (k + 1)).map cellD := by
    unfold cutD
    have e : ((k : Int) + 1) = ((k + 1 : Nat) : Int) := by omega
    rw [e, HT.sIx_nat, HT.sIx_none, List.length_map, Nat.min_eq_left (by omega), List.map_drop, List.take_of_length_le (by simp)]
  rw [e1, e2, show [cellD a] = [a].map cellD from rfl, ← List.map_append, ← List.map_append]
  congr 1
  rw [List.set_eq_take_append_cons_drop, if_pos hk]
  simp
theorem cutD_le (ds : List PyData) (lo hi : Option Int) : (cutD ds lo hi).length ≤ ds.length := by
  unfold cutD
  rw [List.length_take, List.length_drop]
  omega
theorem ed_setCells {K : PySem.W.Frag} {ρ : Rho} {cs : List Cell} {k i j l : Nat} {a : Cell} (hk : k < cs.length) (hl : cs.length ≤ 1000) (h1 : ρ[i]? = some (some (cellsD cs))) (h2 : ρ[j]? = some (some (.int k))) (h3 : ρ[l]? = some (some (cellD a))) :
    ED (tOp (rAddX K) (tOp (rAddX K) (tSl (rSlX K) (tVar i) tNoPart (tPart (tVar j))) (tTup (tCons (tVar l) tNil))) (tSl (rSlX K) (tVar i) (tPart (tOp (rAddX K) (tVar j) (tC (.int 1)))) tNoPart)) ρ (cellsD (cs.set k a)) := by
  have m1 := cutD_le (cs.map cellD) none (some (k : Int))
  have m2 := cutD_le (cs.map cellD) (some ((k : Int) + 1)) none
  rw [List.length_map] at m1 m2
  refine ED.is (ed_op (ed_op (ed_slT (ed_var h1) eo_none (eo_some (ed_var h2))) (ed_tup (ea_cons (ed_var h3) ea_nil) (by simp)) (r2_catT ?_)) (ed_slT (ed_var h1) (eo_some (ed_op (ed_var h2) ed_int r2_addI)) eo_none) (r2_catT ?_)) (congrArg PyData.tuple (cut_cells cs k a hk))
  · rw [List.length_singleton]
    omega
  · rw [List.length_append, List.length_singleton]
    omega
inductive R_step_done : List PyData → PyData → Prop
  | mk (h : Hall) (s : Stand) (k : Nat) (w : Sg) (hd : h.doors.length ≤ 100) (hw : s.ways.length = h.doors.length) (hc : s.cells.length ≤ 100) (hk : k < s.cells.length) : R_step_done [hallD h, standD s, stepD k w] (doneD (stepDone h s k w))
theorem len_doorEdges {ds : List Edge} {ws : List Sg} (h : ws.length = ds.length) : (doorEdges ds ws).length = ds.length := by
  unfold doorEdges
  rw [List.length_zipWith]
  omega
section
variable {K : PySem.W.Frag}
theorem rp_step_done {ds : List PyData} {d : PyData} (h : R_step_done ds d) : RD (rd_step_done K (spR R_door_edges) (spR R_edge_crossed) (spR R_is_cell) (spR R_next_cell) (spR R_swung_ways)) (ds.map some ++ List.replicate (13 - ds.length) none) d := by
  obtain ⟨h, s, k, w, hd, hw, hcl, hk⟩ := h
  have he : s.cells[k]? = some s.cells[k] := List.getElem?_eq_getElem hk
  generalize s.cells[k] = c at he
  have hat : atI (s.cells.map cellD) (k : Int) = some (cellD c) := atI_nat (by rw [List.getElem?_map, he]; rfl)
  refine rd_seq (sd_asg (d := standD s) (by walk_at "ed") (gd_tup (vs := [3, 4]) (gds_cons (gd_name (by simp)) (gds_cons (gd_name (by simp)) gds_nil)) rfl)) ?_
  refine rd_seq (sd_asg (d := stepD k w) (by walk_at "ed") (gd_tup (vs := [5, 6]) (gds_cons (gd_name (by simp)) (gds_cons (gd_name (by simp)) gds_nil)) rfl)) ?_
  refine rd_seq (sd_set (ed_call (ea_cons (ed_op (ed_var rfl) (ed_var rfl) (r2_ixT hat)) (ea_cons (ed_var rfl) ea_nil)) (.mk c w))) ?_
  refine rd_seq (sd_set (ed_call (ea_cons (ed_op (ed_var rfl) (ed_var rfl) (r2_ixT hat)) (ea_cons (ed_var rfl) ea_nil)) (.mk c w))) ?_
  have h1 : ET (tOr (tNot (tB (tCallD (spR R_is_cell) (tCons (tVar 0) (tCons (tVar 7) tNil))))) (tOr (tTest (tOp (rInX K false) (tVar 7) (tVar 3))) (tTest (tOp (rInX K false) (tVar 8) (tOp (rIx K) (tVar 0) (tC (.int 2)))))))
      [some (hallD h), some (standD s), some (stepD k w), some (cellsD s.cells), some (.str (wsS s.ways)), some (.int k), some (sg w), some (cellD (nextC c w)), some (edgeD (crossed c w)), none, none, none, none]
      (!inH h (nextC c w) || (decide (nextC c w ∈ s.cells) || decide (crossed c w ∈ h.walls))) := by
    refine et_or (et_not (et_B (ed_call (by walk_at "ed") (.mk h _)))) fun _ => et_or (et_test ?_) fun _ => et_test ?_
    · exact ED.is (ed_op (ed_var rfl) (ed_var rfl) (r2_inT (sh_cell _) (sh_cells _))) (congrArg PyData.bool (any_cell _ _))
    · exact ED.is (ed_op (ed_var rfl) (ed_op (ed_var rfl) ed_int (r2_ixT rfl)) (r2_inT (sh_edge _) (sh_edges _))) (congrArg PyData.bool (any_edge _ _))
  refine rd_ifS h1 (fun hb => ?_) (fun hb => ?_)
  · refine rd_ret (ED.is ed_non ?_)
    have hc : inH h (nextC c w) = false ∨ nextC c w ∈ s.cells ∨ crossed c w ∈ h.walls := by
      simpa [Bool.or_eq_true] using hb
    simp only [stepDone, he]
    rw [if_pos hc]
    rfl
  have hc : ¬ (inH h (nextC c w) = false ∨ nextC c w ∈ s.cells ∨ crossed c w ∈ h.walls) := fun z => by
    rcases z with z | z | z
    · simp [z] at hb
    · simp [z] at hb
    · simp [z] at hb
  refine rd_seq (sd_set (ed_setCells (k := k) hk (by omega) rfl rfl rfl)) ?_
  refine rd_seq (sd_set (ed_call (by walk_at "ed") (.mk h s.ways hd))) ?_
  have h2 : ET (tTest (tOp (rInX K true) (tVar 8) (tVar 10))) [some (hallD h), some (standD s), some (stepD k w), some (cellsD s.cells), some (.str (wsS s.ways)), some (.int k), some (sg w), some (cellD (nextC c w)), some (edgeD (crossed c w)), some (cellsD (s.cells.set k (nextC c w))), some (.list ((doorEdges h.doors s.ways).map edgeD)), none, none]
      (!decide (crossed c w ∈ doorEdges h.doors s.ways)) :=
    et_test (ED.is (ed_op (ed_var rfl) (ed_var rfl) (r2_inL (sh_edge _) (sh_edgesL _))) (congrArg (fun b => PyData.bool (!b)) (any_edge _ _)))
  refine rd_ifS h2 (fun hb2 => ?_) (fun hb2 => ?_)
  · have hn : crossed c w ∉ doorEdges h.doors s.ways := by simpa using hb2
    have hf : (doorEdges h.doors s.ways).findIdx? (· == crossed c w) = none := by
      rw [List.findIdx?_eq_none_iff]
      intro x hx
      simp only [beq_eq_false_iff_ne]
      exact fun z => hn (z ▸ hx)
    refine rd_ret (ED.is (ed_tup (ea_cons (ed_tup (ea_cons (ed_var rfl) (ea_cons (ed_var rfl) ea_nil)) (by simp)) (ea_cons ed_non ea_nil)) (by simp)) ?_)
    simp only [stepDone, he]
    rw [if_neg hc, hf]
    rfl
  · have hm : crossed c w ∈ doorEdges h.doors s.ways := by simpa using hb2
    obtain ⟨j, hf⟩ : ∃ j, (doorEdges h.doors s.ways).findIdx? (· == crossed c w) = some j := by
      cases hf : (doorEdges h.doors s.ways).findIdx? (· == crossed c w) with
      | none =>
        rw [List.findIdx?_eq_none_iff] at hf
        have := hf _ hm
        simp at this
      | some j => exact ⟨j, rfl⟩
    obtain ⟨hjl, hj1, hj2⟩ := List.findIdx?_eq_some_iff_getElem.mp hf
    have hjd : j < h.doors.length := by rw [len_doorEdges hw] at hjl; exact hjl
    have hje : (doorEdges h.doors s.ways)[j]? = some (crossed c w) := by
      rw [List.getElem?_eq_getElem hjl]
      simp only [beq_iff_eq] at hj1
      rw [hj1]
    refine rd_seq (sd_set (ed_index (j := j) (z := edgeD (crossed c w)) (ed_var rfl) (ed_var rfl) (sh_edgesL _) (sh_edge _) (by rw [List.getElem?_map, hje]; rfl) (by rw [eqv_edge]; simp) fun m z' hmj hz' => ?_)) ?_
    · rw [List.getElem?_map] at hz'
      have hml : m < (doorEdges h.doors s.ways).length := by omega
      rw [List.getElem?_eq_getElem hml] at hz'
      have := hj2 m hmj
      cases hz'
      rw [eqv_edge]
      simpa using this
    refine rd_seq (sd_set (ed_call (by walk_at "ed") (.mk h s.ways j w hd hw hjd))) ?_
    simp only [stepDone, he]
    rw [if_neg hc, hf]
    show RD _ _ (doneD ((swung h s.ways j w).map fun ws => ((⟨s.cells.set k (nextC c w), ws⟩ : Stand), some j)))
    cases hsw : swung h s.ways j w with
    | none =>
      refine rd_ifS (b := true) (ET.is (et_test (ed_op (ed_var rfl) ed_non r2_isN)) (by rfl)) (fun _ => ?_) (fun z => nomatch z)
      exact rd_ret ed_non
    | some ws =>
      refine rd_ifS (b := false) (ET.is (et_test (ed_op (ed_var rfl) ed_non r2_isN)) (by rfl)) (fun z => nomatch z) (fun _ => ?_)
      exact rd_ret (ED.is (ed_tup (ea_cons (ed_tup (ea_cons (ed_var rfl) (ea_cons (ed_var rfl) ea_nil)) (by simp)) (ea_cons (ed_var rfl) ea_nil)) (by simp)) rfl)
end
end Pd
/-! Sem5 -/
set_option Elab.async false
set_option linter.all false
set_option maxRecDepth 100000
set_option maxHeartbeats 4000000
namespace Pd
variable [Pd.Wd]
open PySem PySem.Spec PyProof.Rows L2 PySem.W
local macro_rules | `(tactic| walk_at "ed") => `(tactic| repeat' (first
  | with_reducible (first
    | exact ed_int | exact ed_str | exact ed_bl | exact ed_non
    | exact ea_nil | refine' ea_cons ?_ ?_
    | refine' ed_isi ?_ ?_ | refine' ed_isi2 ?_ ?_ ?_
    | refine' ed_andV ?_ (fun _ => ?_) | refine' ed_orV ?_ (fun _ => ?_) | refine' ed_notV ?_
    | refine' ed_chain ?_ ?_ ?_ (fun _ => ⟨?_, ?_⟩)
    | refine' ed_tup ?_ ?_ | refine' ed_lst ?_ ?_
    | refine' et_not ?_ | refine' et_and ?_ (fun _ => ?_) | refine' et_or ?_ (fun _ => ?_) | exact et_yes
    | refine' et_test ?_ | refine' et_B ?_
    | refine' ed_op ?_ ?_ ?_
    | refine' ed_cb ?_ ?_)
  | exact ed_var rfl
  | exact kit_tt | exact kit_ii | exact kit_ib | exact kit_ll | exact kit_lt | exact kit_tl
  | exact r2_addI | exact r2_subI | exact r2_lt | exact r2_le | exact r2_gt | exact r2_ge | exact r2_isN | exact r2_notN
  | exact rc_lenT | exact rc_lenL | exact rc_intB | exact rc_tupL
  | with_reducible (first | refine' r2_eq ?_ ?_ | refine' r2_ne ?_ ?_)
  | exact sh_int _ | exact sh_sg _ | exact sh_cell _ | exact sh_edge _ | exact sh_pair _ | exact sh_str _ (by decide +kernel)
  | exact r2_ixT rfl | exact r2_ixL rfl
  | refine' ed_tup ?_ ?_
  | (show List.length _ ≤ 100000; simp; done)))
/-! ### the law's own step -/
/-- the two cells on an edge's sides -/
def shutP (e : Edge) : Cell × Cell := if e.2.2 = .h then ((e.1 - 1, e.2.1), (e.1, e.2.1)) else ((e.1, e.2.1 - 1), (e.1, e.2.1))
def HV (e : Edge) : Prop := e.2.2 = .h ∨ e.2.2 = .v
theorem shutP_inj {a b : Edge} (ha : HV a) (hb : HV b) (h : shutP a = shutP b) : a = b := by
  obtain ⟨a1, a2, a3⟩ := a
  obtain ⟨b1, b2, b3⟩ := b
  have ha' : a3 = .h ∨ a3 = .v := ha
  have hb' : b3 = .h ∨ b3 = .v := hb
  rcases ha' with rfl | rfl <;> rcases hb' with rfl | rfl <;> simp [shutP] at h ⊢ <;> omega
theorem hv_from (r c : Int) (w : Sg) : HV (edgeFrom r c w) := by
  unfold edgeFrom HV
  split
  · exact .inr rfl
  · split
    · exact .inl rfl
    · split
      · exact .inr rfl
      · exact .inl rfl
theorem mem_shut {es : List Edge} {e : Edge} (h : ∀ x ∈ es, HV x) (he : HV e) : shutP e ∈ es.map shutP ↔ e ∈ es := by
  constructor
  · intro hm
    obtain ⟨x, hx, q⟩ := List.mem_map.mp hm
    rw [← shutP_inj (h x hx) he q]
    exact hx
  · exact fun hm => List.mem_map_of_mem hm
inductive R_L_shut : List PyData → PyData → Prop | mk (e : Edge) : R_L_shut [edgeD e] (pairD (shutP e))
inductive R_L_pair : List PyData → PyData → Prop | mk (c : Cell) (w : Sg) (h : Way w) : R_L_pair [cellD c, sg w] (pairD (shutP (edgeFrom c.1 c.2 w)))
def inRC (r c : Int) (x : Cell) : Bool := decide (0 ≤ x.1 ∧ x.1 < r ∧ 0 ≤ x.2 ∧ x.2 < c)
inductive R_L_within : List PyData → PyData → Prop
  | mk (r c : Int) (rest : List PyData) (p : Cell × Cell) : R_L_within [.tuple (.int r :: .int c :: rest), pairD p] (.bool (inRC r c p.1 && inRC r c p.2))
section
variable {K : PySem.W.Frag}
theorem rp_L_shut {ds : List PyData} {d : PyData} (h : R_L_shut ds d) : RD (rd_L_shut K) (ds.map some ++ List.replicate (4 - ds.length) none) d := by
  obtain ⟨e⟩ := h
  refine rd_seq (sd_asg (d := edgeD e) (by walk_at "ed") (gd_tup (vs := [1, 2, 3]) (gds_cons (gd_name (by simp)) (gds_cons (gd_name (by simp)) (gds_cons (gd_name (by simp)) gds_nil))) rfl)) ?_
  refine rd_ret (ed_if (b := decide (e.2.2 = .h)) (ET.is (by walk_at "ed") (by rw [lit_h, eqv_sg])) (fun hb => ?_) (fun hb => ?_))
  · have h1 := of_decide_eq_true hb
    exact ED.is (by walk_at "ed") (by simp [shutP, h1, pairD, cellD])
  · have h1 := of_decide_eq_false hb
    exact ED.is (by walk_at "ed") (by simp [shutP, h1, pairD, cellD])
theorem in_ns (w : Sg) : decide (w.code ∈ ("ns" : Str).cps.toList) = decide (w = .n ∨ w = .s) := by
  cases w <;> decide +kernel
theorem rp_L_pair {ds : List PyData} {d : PyData} (h : R_L_pair ds d) : RD (rd_L_pair K) (ds.map some ++ List.replicate (6 - ds.length) none) d := by
  obtain ⟨c, w, h⟩ := h
  refine rd_seq (sd_asg (d := cellD c) (by walk_at "ed") (gd_tup (vs := [2, 3]) (gds_cons (gd_name (by simp)) (gds_cons (gd_name (by simp)) gds_nil)) rfl)) ?_
  refine rd_ifS (b := decide (w = .n ∨ w = .s)) (et_test (ED.is (ed_op (ed_var rfl) ed_str (r2_inS (c := w.code))) (congrArg PyData.bool (in_ns w)))) (fun hb => ?_) (fun hb => ?_)
  · have h1 := of_decide_eq_true hb
    refine rd_seq (sd_set (ED.is (by walk_at "ed") (congrArg (fun b : Bool => PyData.int (c.1 - if b = true then 1 else 0)) (by rw [lit_n, eqv_sg])))) ?_
    refine rd_ret (ED.is (by walk_at "ed") ?_)
    rcases h1 with rfl | rfl
    · simp [shutP, edgeFrom, pairD, cellD]
    · simp [shutP, edgeFrom, pairD, cellD]
  · have h1 := of_decide_eq_false hb
    refine rd_seq (sd_set (ED.is (by walk_at "ed") (congrArg (fun b : Bool => PyData.int (c.2 - if b = true then 1 else 0)) (by rw [lit_w, eqv_sg])))) ?_
    refine rd_ret (ED.is (by walk_at "ed") ?_)
    rcases h with rfl | rfl | rfl | rfl
    · simp [shutP, edgeFrom, pairD, cellD]
    · exact absurd (.inl rfl) h1
    · exact absurd (.inr rfl) h1
    · simp [shutP, edgeFrom, pairD, cellD]
theorem rp_L_within {ds : List PyData} {d : PyData} (h : R_L_within ds d) : RD (rd_L_within K) (ds.map some ++ List.replicate (4 - ds.length) none) d := by
  obtain ⟨r, c, rest, p⟩ := h
  have h1 : ED (tLc (iTup K (tVar 1)) (gName 3) (tAnd (tTest (tChain rLeI rLtI (tC (.int 0)) (tOp (rIx K) (tVar 3) (tC (.int 0))) (tOp (rIx K) (tVar 0) (tC (.int 0))))) (tTest (tChain rLeI rLtI (tC (.int 0)) (tOp (rIx K) (tVar 3) (tC (.int 1))) (tOp (rIx K) (tVar 0) (tC (.int 1)))))) (tVar 3) [3])
      [some (.tuple (.int r :: .int c :: rest)), some (pairD p), none, none] (.list (([p.1, p.2].filter fun x => inRC r c x).map cellD)) := by
    refine ed_lcT [p.1, p.2] cellD (fun x => inRC r c x) cellD (ie_tup (ed_var rfl)) (by simp) fun x _ => ⟨_, gd_name (by simp), ?_, fun _ => ed_var rfl⟩
    have a0 : atI (PyData.int r :: PyData.int c :: rest) 0 = some (.int r) := atI_nat (j := 0) rfl
    have a1 : atI (PyData.int r :: PyData.int c :: rest) 1 = some (.int c) := atI_nat (j := 1) rfl
    refine ET.is (et_and (et_test (ed_chain ed_int (ed_op (ed_var (d := cellD x) rfl) ed_int (r2_ixT rfl)) r2_le fun _ => ⟨ed_op (ed_var rfl) ed_int (r2_ixT a0), r2_lt⟩)) fun _ => et_test (ed_chain ed_int (ed_op (ed_var (d := cellD x) rfl) ed_int (r2_ixT rfl)) r2_le fun _ => ⟨ed_op (ed_var rfl) ed_int (r2_ixT a1), r2_lt⟩)) ?_
    by_cases q1 : 0 ≤ x.1
    · by_cases q2 : x.1 < r
      · by_cases q3 : 0 ≤ x.2
        · by_cases q4 : x.2 < c
          · simp [inRC, q1, q2, q3, q4]
          · simp [inRC, q1, q2, q3, q4]
        · simp [inRC, q1, q2, q3]
      · simp [inRC, q1, q2]
    · simp [inRC, q1]
  refine rd_seq (sd_set h1) ?_
  refine rd_ret (ED.is (ed_op (ed_cb (ea_cons (ed_var rfl) ea_nil) rc_lenL) ed_int (r2_eq (sh_int _) (sh_int _))) ?_)
  rw [eqv_int]
  cases e1 : inRC r c p.1 <;> cases e2 : inRC r c p.2 <;> simp [e1, e2]
end
end Pd
/-! Sem6 -/
set_option Elab.async false
set_option linter.all false
set_option maxRecDepth 100000
set_option maxHeartbeats 4000000
namespace Pd
variable [Pd.Wd]
open PySem PySem.Spec PyProof.Rows L2 PySem.W
local macro_rules | `(tactic| walk_at "ed") => `(tactic| repeat' (first
  | with_reducible (first
    | exact ed_int | exact ed_str | exact ed_bl | exact ed_non
    | exact ea_nil | refine' ea_cons ?_ ?_
    | refine' ed_isi ?_ ?_ | refine' ed_isi2 ?_ ?_ ?_
    | refine' ed_andV ?_ (fun _ => ?_) | refine' ed_orV ?_ (fun _ => ?_) | refine' ed_notV ?_
    | refine' ed_chain ?_ ?_ ?_ (fun _ => ⟨?_, ?_⟩)
    | refine' ed_tup ?_ ?_ | refine' ed_lst ?_ ?_
    | refine' et_not ?_ | refine' et_and ?_ (fun _ => ?_) | refine' et_or ?_ (fun _ => ?_) | exact et_yes
    | refine' et_test ?_ | refine' et_B ?_
    | refine' ed_op ?_ ?_ ?_
    | refine' ed_cb ?_ ?_)
  | exact ed_var rfl
  | exact kit_tt | exact kit_ii | exact kit_ib | exact kit_ll | exact kit_lt | exact kit_tl
  | exact r2_addI | exact r2_subI | exact r2_lt | exact r2_le | exact r2_gt | exact r2_ge | exact r2_isN | exact r2_notN
  | exact rc_lenT | exact rc_lenL | exact rc_intB | exact rc_tupL
  | with_reducible (first | refine' r2_eq ?_ ?_ | refine' r2_ne ?_ ?_)
  | exact sh_int _ | exact sh_sg _ | exact sh_cell _ | exact sh_edge _ | exact sh_pair _ | exact sh_str _ (by decide +kernel)
  | exact r2_ixT rfl | exact r2_ixL rfl
  | refine' ed_tup ?_ ?_
  | (show List.length _ ≤ 100000; simp; done)))
structure StepOk (h : Hall) (s : Stand) (k : Nat) (w : Sg) : Prop where
  walls : ∀ e ∈ h.walls, HV e
  nwalls : h.walls.length ≤ 100
  ndoors : h.doors.length ≤ 100
  ways : ∀ x ∈ s.ways, Way x
  nways : s.ways.length = h.doors.length
  cells : ∀ c ∈ s.cells, inH h c = true
  ncells : s.cells.length ≤ 100
  k : k < s.cells.length
  w : Way w
theorem within_edge (h : Hall) (e : Edge) (he : HV e) : (inRC h.rows h.cols (shutP e).1 && inRC h.rows h.cols (shutP e).2) = isEdge h e := by
  obtain ⟨r, c, g⟩ := e
  have he' : g = .h ∨ g = .v := he
  rw [Bool.eq_iff_iff]
  rcases he' with rfl | rfl
  · simp [shutP, inRC, isEdge, inH]
    omega
  · simp [shutP, inRC, isEdge, inH]
    omega
section
variable {K : PySem.W.Frag}
end
end Pd
/-! PdF -/
set_option Elab.async false
set_option linter.all false
set_option maxRecDepth 100000
set_option maxHeartbeats 4000000
/-! loops, and lists of the def's own -/
namespace Pd
variable [Pd.Wd]
open PySem PySem.Spec PyProof.Rows L2

/-- less is told -/
def Rle (ρ0 ρ : Rho) : Prop := ρ0.length = ρ.length ∧ ∀ i : Nat, ∀ d : PyData, ρ0[i]? = some (some d) → ρ[i]? = some (some d)
theorem EnvD.less {σ : L2.St} {B : Hp} {ρ0 ρ : Rho} (h : EnvD σ B ρ) (l : Rle ρ0 ρ) : EnvD σ B ρ0 := ⟨h.len.trans l.1.symm, fun i d q => h.get i d (l.2 i d q)⟩
theorem Rle.refl (ρ : Rho) : Rle ρ ρ := ⟨rfl, fun _ _ q => q⟩
theorem Rle.trans {a b c : Rho} (h : Rle a b) (k : Rle b c) : Rle a c := ⟨h.1.trans k.1, fun i d q => k.2 i d (h.2 i d q)⟩
theorem Rle.set {ρ0 ρ : Rho} {i : Nat} {o : Option PyData} (h : Rle ρ0 ρ) (hi : ρ0[i]? = some none) : Rle ρ0 (ρ.set i o) := by
  refine ⟨by rw [List.length_set]; exact h.1, fun j d q => ?_⟩
  by_cases hj : i = j
  · subst hj
    rw [hi] at q
    cases q
  · rw [List.getElem?_set_ne hj]
    exact h.2 j d q

/-- a def's own list, at slot j: beside the base, what it holds is told. B0: what the base has known from somewhere on -/
structure Own1 (B0 B1 H1 : Hp) (l : Addr) (j : Nat) (σ : L2.St) (B H : Hp) (ρ : Rho) (ds : List PyData) : Prop where
  b0 : Ex B0 B
  g : Gr B1 H1 B H
  f : H1 l = none
  s : σ[j]? = some (some (.ref l))
  n : B l = none
  h : ∃ xs, H l = some (.lst xs) ∧ DHs B xs ds
  e : EnvD σ B ρ
theorem Own1.mono {B0 B1 H1 : Hp} {l : Addr} {j : Nat} {σ : L2.St} {B H B' H' : Hp} {ρ : Rho} {ds : List PyData} (o : Own1 B0 B1 H1 l j σ B H ρ ds) (k : Gr B H B' H') : Own1 B0 B1 H1 l j σ B' H' ρ ds := by
  obtain ⟨xs, h1, h2⟩ := o.h
  exact ⟨o.b0.trans k.b, o.g.trans k, o.f, o.s, k.n l o.n (by rw [h1]; exact fun z => nomatch z), ⟨xs, k.h _ _ h1, h2.mono k.b⟩, o.e.mono k.b⟩
theorem Own1.less {B0 B1 H1 : Hp} {l : Addr} {j : Nat} {σ : L2.St} {B H : Hp} {ρ0 ρ : Rho} {ds : List PyData} (o : Own1 B0 B1 H1 l j σ B H ρ ds) (k : Rle ρ0 ρ) : Own1 B0 B1 H1 l j σ B H ρ0 ds :=
  ⟨o.b0, o.g, o.f, o.s, o.n, o.h, o.e.less k⟩
theorem Own1.set {B0 B1 H1 : Hp} {l : Addr} {j i : Nat} {σ : L2.St} {B H : Hp} {ρ : Rho} {ds : List PyData} {v : V} {d : PyData} (o : Own1 B0 B1 H1 l j σ B H ρ ds) (hij : i ≠ j) (dv : DH B v d) : Own1 B0 B1 H1 l j (σ.set i (some v)) B H (ρ.set i (some d)) ds :=
  ⟨o.b0, o.g, o.f, by rw [List.getElem?_set_ne hij]; exact o.s, o.n, o.h, o.e.set i dv⟩
theorem Own1.base {B0 B0' B1 H1 : Hp} {l : Addr} {j : Nat} {σ : L2.St} {B H : Hp} {ρ : Rho} {ds : List PyData} (o : Own1 B0 B1 H1 l j σ B H ρ ds) (k : Ex B0' B) : Own1 B0' B1 H1 l j σ B H ρ ds :=
  ⟨k, o.g, o.f, o.s, o.n, o.h, o.e⟩
/-- it is handed back -/
theorem Own1.done {B0 B1 H1 : Hp} {l : Addr} {j : Nat} {σ : L2.St} {B H : Hp} {ρ : Rho} {ds : List PyData} (o : Own1 B0 B1 H1 l j σ B H ρ ds) : ∃ B', Ex B B' ∧ Gr B1 H1 B' H ∧ DH B' (.ref l) (.list ds) := by
  obtain ⟨xs, h1, h2⟩ := o.h
  have nB1 : B1 l = none := o.g.b.nil o.n
  refine ⟨upd B l (.lst xs), Ex.new o.n, ⟨o.g.b.mut nB1, fun a u ha => ?_, o.g.h, fun a p1 p2 => ?_⟩, .lst upd_same (h2.mono (Ex.new o.n))⟩
  · by_cases h : a = l
    · subst h
      rw [upd_same] at ha
      cases ha
      exact h1
    · rw [upd_ne h] at ha
      exact o.g.t a u ha
  · have h : a ≠ l := fun z => p2 (by rw [z]; exact o.f)
    rw [upd_ne h]
    exact o.g.n a p1 p2
def SO (t : TS) (j : Nat) (ρ : Rho) (ds : List PyData) (ρ' : Rho) (ds' : List PyData) : Prop :=
  ∀ B0 B1 H1 l σ B H (D : Ends), Own1 B0 B1 H1 l j σ B H ρ ds → (∀ σ' B' H', Own1 B0 B1 H1 l j σ' B' H' ρ' ds' → D.nx σ' H') → t D σ H
section
variable {K : PySem.W.Frag} {ρ ρ' ρ1 ρ0 : Rho} {ta tb tc te : TE} {tt : TT} {t u tb' : TS} {d e z : PyData} {ds es ds' ds1 : List PyData} {i j : Nat} {vs : List Nat}
theorem so_seq (h : SO t j ρ ds ρ1 ds1) (k : SO u j ρ1 ds1 ρ' ds') : SO (tSeq t u) j ρ ds ρ' ds' := fun B0 B1 H1 l σ B H D o q => h B0 B1 H1 l σ B H { D with nx := u D } o fun σ' B' H' o' => k B0 B1 H1 l σ' B' H' D o' q
theorem so_next : SO tNext j ρ ds ρ ds := fun B0 B1 H1 l σ B H D o q => q σ B H o
theorem so_less (h : SO t j ρ ds ρ' ds') (k : Rle ρ0 ρ') : SO t j ρ ds ρ0 ds' := fun B0 B1 H1 l σ B H D o q => h B0 B1 H1 l σ B H D o fun σ' B' H' o' => q σ' B' H' (o'.less k)
theorem so_if {b : Bool} (h : ET tt ρ b) (h1 : b = true → SO t j ρ ds ρ' ds') (h2 : b = false → SO u j ρ ds ρ' ds') : SO (tIfS tt t u) j ρ ds ρ' ds' := fun B0 B1 H1 l σ B H D o q => by
  refine h σ B H o.g.t o.e _ fun B2 H2 g2 => ?_
  cases b with
  | true => exact h1 rfl B0 B1 H1 l σ B2 H2 D (o.mono g2) q
  | false => exact h2 rfl B0 B1 H1 l σ B2 H2 D (o.mono g2) q
theorem so_set (hij : i ≠ j) (h : ED te ρ d) : SO (tAsg te (gName i)) j ρ ds (ρ.set i (some d)) ds := fun B0 B1 H1 l σ B H D o q =>
  h σ B H o.g.t o.e _ fun v B2 H2 g2 dv => q _ B2 H2 ((o.mono g2).set hij dv)
/-- xs.append(e) -/
theorem so_app (h : ED te ρ d) (hz : ds.length < 100000) : SO (tDrop (tBM K "list" rAppend (tVar j) (tCons te tNil))) j ρ ds ρ (ds ++ [d]) := fun B0 B1 H1 l σ B H D o q => by
  refine ⟨.ref l, o.s, ?_⟩
  obtain ⟨xs0, hl0, _⟩ := o.h
  refine ⟨.inl ⟨rfl, _, SqL.of hl0⟩, ?_⟩
  refine h σ B H o.g.t o.e _ fun v B2 H2 g2 dv => ?_
  have o2 := o.mono g2
  obtain ⟨xs, hl, hx⟩ := o2.h
  refine ⟨l, xs, v, rfl, rfl, hl, ?_, q σ B2 _ ⟨o2.b0, ⟨o2.g.b, o2.g.t.mut o2.n, o2.g.h.mut o2.f, o2.g.n⟩, o2.f, o2.s, o2.n, ⟨_, upd_same, hx.append (.one dv)⟩, o2.e⟩⟩
  rw [hx.length]
  exact Nat.lt_trans hz (by decide)
/-- a for over data, gathering into the list -/
theorem so_for {α : Type} {wi : TI} {items : List α} (enc : α → PyData) (F : List PyData → α → List PyData) (hij : i ≠ j) (hi : IE wi ρ0 (items.map enc))
    (turn : ∀ x ∈ items, ∀ ds0, ds0.length ≤ ds.length + 100 * items.length → SO tb' j (ρ0.set i (some (enc x))) ds0 ρ0 (F ds0 x))
    (hF : ∀ ds0 x, (F ds0 x).length ≤ ds0.length + 100) : SO (tFor wi (gName i) tb') j ρ0 ds ρ0 (items.foldl F ds) := fun B0 B1 H1 l σ B H D o q => by
  refine hi σ B H o.g.t o.e _ fun J B2 H2 g2 hJ => ?_
  refine ⟨fun n m σ' H' => m = items.length - n ∧ n ≤ items.length ∧ ∃ B', Own1 B2 B1 H1 l j σ' B' H' ρ0 ((items.take n).foldl F ds) ∧ ((items.take n).foldl F ds).length ≤ ds.length + 100 * n, ⟨items.length, by omega, Nat.zero_le _, B2, (o.mono g2).base (Ex.refl B2), by simp⟩, ?_⟩
  rintro n m σ' H' ⟨rfl, hle, B', o', hlen⟩
  obtain ⟨hstop, hgo⟩ := hJ B' H' o'.b0 o'.g.t n
  by_cases hlt : n < items.length
  · right
    have hd : items[n]? = some items[n] := List.getElem?_eq_getElem hlt
    obtain ⟨go, hy⟩ := hgo (enc items[n]) (by rw [List.getElem?_map, hd]; rfl)
    have htk : (items.take (n + 1)).foldl F ds = F ((items.take n).foldl F ds) items[n] := by
      rw [List.take_add_one, hd, List.foldl_append]
      rfl
    refine ⟨go, fun σ2 H2 => n + 1 ≤ items.length ∧ ∃ B', Own1 B2 B1 H1 l j σ2 B' H2 ρ0 ((items.take (n + 1)).foldl F ds) ∧ ((items.take (n + 1)).foldl F ds).length ≤ ds.length + 100 * (n + 1), fun σ2 H2 ⟨p1, p2⟩ => ⟨items.length - (n + 1), by omega, rfl, p1, p2⟩, fun x H3 hyl => ?_⟩
    obtain ⟨B3, g3, dx⟩ := hy x H3 hyl
    have hFl := hF ((items.take n).foldl F ds) items[n]
    refine turn items[n] (List.getElem_mem _) _ (by have : 100 * n ≤ 100 * items.length := Nat.mul_le_mul_left _ hle; omega) B2 B1 H1 l _ B3 H3 _ ((o'.mono g3).set hij dx) ?_
    intro σ4 B4 H4 o4
    exact ⟨hlt, B4, by rw [htk]; exact o4, by rw [htk]; omega⟩
  · left
    have hie : n = items.length := by omega
    subst hie
    refine ⟨hstop (by rw [List.length_map]), ?_⟩
    rw [List.take_length] at o'
    exact q σ' B' H' (o'.base ((o.b0.trans g2.b).trans o'.b0))
/-- xs = []; ..; return xs -/
theorem rd_own {n : Nat} (hj : j < ρ.length) (h : SO t j (ρ.set j none) [] ρ' ds) : RD (tSeq (tAsg (tLst tNil) (gName j)) (tSeq t (tRet (tVar j)))) ρ (.list ds) := fun σ B H D ex ev q => by
  refine ⟨Nat.zero_le _, fun l hl => ?_⟩
  have g := Gr.own (o := .lst []) ex hl
  refine h B B H l _ B _ { D with nx := tRet (tVar j) D } ⟨Ex.refl B, g, hl, List.getElem?_set_self (by rw [ev.len]; exact hj), ex.nil hl, ⟨[], upd_same, .nil⟩, ev.forget j _⟩ fun σ' B' H' o => ?_
  obtain ⟨B2, _, g2, d2⟩ := o.done
  exact ⟨_, o.s, q _ B2 H' g2 d2⟩

/-! ### loops without a list of one's own -/
/-- if t: raise .., t being false -/
theorem sd_ifNo (h : ET tt ρ false) : SD (tIfS tt u tNext) ρ ρ := fun σ B H D ex ev q => h σ B H ex ev _ fun B' H' g => q σ B' H' g (ev.mono g.b)
/-! ### enumerate -/
theorem ie_enumT {ta : TA} (h : EA ta ρ [.tuple ds]) : IE (iEnumX K ta) ρ (ds.zipIdx.map fun p => .tuple [.int p.2, p.1]) := fun σ B H ex ev R q => by
  refine h σ B H ex ev _ fun vs B1 H1 g1 d1 => ?_
  cases d1 with
  | cons a1 r =>
    cases r
    cases a1 with
    | @tup a xs _ ha hs =>
      have hl := hs.length
      refine ⟨a, xs, rfl, .inr ⟨SqT.of (g1.t _ _ ha), q _ B1 H1 g1 fun B2 H2 e1 e2 i => ⟨fun hi => ?_, fun d hd => ?_⟩⟩⟩
      · rw [List.length_map, List.length_zipIdx] at hi
        exact ⟨xs, SqT.of (e2 _ _ (e1 _ _ ha)), by omega⟩
      · rw [List.getElem?_map, List.getElem?_zipIdx] at hd
        cases hd1 : ds[i]? with
        | none => rw [hd1] at hd; simp at hd
        | some d0 =>
          rw [hd1] at hd
          simp at hd
          subst hd
          obtain ⟨v, hv, dv⟩ := hs.get hd1
          refine ⟨⟨xs, v, SqT.of (e2 _ _ (e1 _ _ ha)), hv⟩, fun y H' hy => ?_⟩
          obtain ⟨T, y', rfl, hT, rfl, hy'⟩ := hy
          have e3 := hy' xs (SqT.of (e2 _ _ (e1 _ _ ha)))
          rw [hv] at e3
          cases e3
          have g := Gr.new (o := .tup [.int (i : Nat), v]) e2 hT
          exact ⟨_, g, .tup upd_same (.cons (.int _) (.cons (dv.mono (e1.trans g.b)) .nil))⟩
theorem ie_enumL {ta : TA} (h : EA ta ρ [.list ds]) : IE (iEnumX K ta) ρ (ds.zipIdx.map fun p => .tuple [.int p.2, p.1]) := fun σ B H ex ev R q => by
  refine h σ B H ex ev _ fun vs B1 H1 g1 d1 => ?_
  cases d1 with
  | cons a1 r =>
    cases r
    cases a1 with
    | @lst a xs _ ha hs =>
      have hl := hs.length
      refine ⟨a, xs, rfl, .inl ⟨SqL.of (g1.t _ _ ha), q _ B1 H1 g1 fun B2 H2 e1 e2 i => ⟨fun hi => ?_, fun d hd => ?_⟩⟩⟩
      · rw [List.length_map, List.length_zipIdx] at hi
        exact ⟨xs, SqL.of (e2 _ _ (e1 _ _ ha)), by omega⟩
      · rw [List.getElem?_map, List.getElem?_zipIdx] at hd
        cases hd1 : ds[i]? with
        | none => rw [hd1] at hd; simp at hd
        | some d0 =>
          rw [hd1] at hd
          simp at hd
          subst hd
          obtain ⟨v, hv, dv⟩ := hs.get hd1
          refine ⟨⟨xs, v, SqL.of (e2 _ _ (e1 _ _ ha)), hv⟩, fun y H' hy => ?_⟩
          obtain ⟨T, y', rfl, hT, rfl, hy'⟩ := hy
          have e3 := hy' xs (SqL.of (e2 _ _ (e1 _ _ ha)))
          rw [hv] at e3
          cases e3
          have g := Gr.new (o := .tup [.int (i : Nat), v]) e2 hT
          exact ⟨_, g, .tup upd_same (.cons (.int _) (.cons (dv.mono (e1.trans g.b)) .nil))⟩
/-- a tuple of the module's own, of texts, walked -/
theorem ie_K {a : Addr} {xs : List V} (hT : ∀ H : Hp, SqT K H a xs) (hx : DHs (fun _ => none) xs ds) : IE (iTup K (tC (.ref a))) ρ ds := fun σ B H ex ev R q => by
  refine ⟨a, rfl, ⟨xs, hT H⟩, q _ B H (Gr.refl ex) fun B2 H2 e1 e2 i => ⟨fun hi => ⟨xs, hT _, by rw [hx.length]; omega⟩, fun d hd => ?_⟩⟩
  obtain ⟨x, hx', dx⟩ := hx.get hd
  refine ⟨⟨xs, x, hT _, hx'⟩, fun y H' ⟨eh, hy⟩ => ⟨B2, ?_, ?_⟩⟩
  · subst eh
    exact Gr.refl e2
  · have := hy xs (hT _)
    rw [hx'] at this
    cases this
    exact dx.mono (fun _ _ z => by cases z)
end
end Pd
/-! Sem7 -/
set_option Elab.async false
set_option linter.all false
set_option maxRecDepth 100000
set_option maxHeartbeats 4000000
namespace Pd
variable [Pd.Wd]
open PySem PySem.Spec PyProof.Rows L2 PySem.W
local macro_rules | `(tactic| walk_at "ed") => `(tactic| repeat' (first
  | with_reducible (first
    | exact ed_int | exact ed_str | exact ed_bl | exact ed_non
    | exact ea_nil | refine' ea_cons ?_ ?_
    | refine' ed_isi ?_ ?_ | refine' ed_isi2 ?_ ?_ ?_
    | refine' ed_andV ?_ (fun _ => ?_) | refine' ed_orV ?_ (fun _ => ?_) | refine' ed_notV ?_
    | refine' ed_chain ?_ ?_ ?_ (fun _ => ⟨?_, ?_⟩)
    | refine' ed_tup ?_ ?_ | refine' ed_lst ?_ ?_
    | refine' et_not ?_ | refine' et_and ?_ (fun _ => ?_) | refine' et_or ?_ (fun _ => ?_) | exact et_yes
    | refine' et_test ?_ | refine' et_B ?_
    | refine' ed_op ?_ ?_ ?_
    | refine' ed_cb ?_ ?_)
  | exact ed_var rfl
  | exact kit_tt | exact kit_ii | exact kit_ib | exact kit_ll | exact kit_lt | exact kit_tl
  | exact r2_addI | exact r2_subI | exact r2_lt | exact r2_le | exact r2_gt | exact r2_ge | exact r2_isN | exact r2_notN
  | exact rc_lenT | exact rc_lenL | exact rc_intB | exact rc_tupL
  | with_reducible (first | refine' r2_eq ?_ ?_ | refine' r2_ne ?_ ?_)
  | exact sh_int _ | exact sh_sg _ | exact sh_cell _ | exact sh_edge _ | exact sh_pair _ | exact sh_str _ (by decide +kernel)
  | exact r2_ixT rfl | exact r2_ixL rfl
  | refine' ed_tup ?_ ?_
  | (show List.length _ ≤ 100000; simp; done)))
/-! ### all steps -/
def ways4 : List Sg := [.e, .n, .s, .w]
theorem ways4_way : ∀ w ∈ ways4, Way w := by
  intro w hw
  simp [ways4] at hw
  rcases hw with rfl | rfl | rfl | rfl
  · exact .inl rfl
  · exact .inr (.inl rfl)
  · exact .inr (.inr (.inl rfl))
  · exact .inr (.inr (.inr rfl))
def moveD (m : Nat × Sg × Stand × Option Nat) : PyData := .tuple [stepD m.1 m.2.1, standD m.2.2.1, optN m.2.2.2]
def addMove (h : Hall) (s : Stand) (k : Nat) (ds : List PyData) (w : Sg) : List PyData :=
  match stepDone h s k w with
  | none => ds
  | some p => ds ++ [moveD (k, w, p.1, p.2)]
def addMoves (h : Hall) (s : Stand) (ds : List PyData) (k : Nat) : List PyData := ways4.foldl (addMove h s k) ds
def movesD (h : Hall) (s : Stand) : List PyData := (List.range s.cells.length).foldl (addMoves h s) []
theorem addMove_len (h : Hall) (s : Stand) (k : Nat) (ds : List PyData) (w : Sg) : (addMove h s k ds w).length ≤ ds.length + 1 := by
  unfold addMove
  split
  · omega
  · rw [List.length_append, List.length_singleton]
    omega
theorem addMoves_len (h : Hall) (s : Stand) (ds : List PyData) (k : Nat) : (addMoves h s ds k).length ≤ ds.length + 4 := by
  unfold addMoves ways4
  simp only [List.foldl_cons, List.foldl_nil]
  have h1 := addMove_len h s k ds .e
  have h2 := addMove_len h s k (addMove h s k ds .e) .n
  have h3 := addMove_len h s k (addMove h s k (addMove h s k ds .e) .n) .s
  have h4 := addMove_len h s k (addMove h s k (addMove h s k (addMove h s k ds .e) .n) .s) .w
  omega
/-- what a hall and a standing must be for steps to be done -/
structure SOk (h : Hall) (s : Stand) : Prop where
  walls : ∀ e ∈ h.walls, HV e
  nwalls : h.walls.length ≤ 100
  ndoors : h.doors.length ≤ 100
  ways : ∀ x ∈ s.ways, Way x
  nways : s.ways.length = h.doors.length
  cells : ∀ c ∈ s.cells, inH h c = true
  ncells : s.cells.length ≤ 100
theorem SOk.step {h : Hall} {s : Stand} (o : SOk h s) {k : Nat} {w : Sg} (hk : k < s.cells.length) (hw : Way w) : StepOk h s k w := ⟨o.walls, o.nwalls, o.ndoors, o.ways, o.nways, o.cells, o.ncells, hk, hw⟩
inductive R_moves : List PyData → PyData → Prop | mk (h : Hall) (s : Stand) (o : SOk h s) : R_moves [hallD h, standD s] (.list (movesD h s))
theorem ways_DHs : DHs (fun _ => none) [.str "e", .str "n", .str "s", .str "w"] (ways4.map sg) := by
  have e1 : (V.str "e") = .str ⟨#[101]⟩ := congrArg V.str (by decide +kernel)
  have e2 : (V.str "n") = .str ⟨#[110]⟩ := congrArg V.str (by decide +kernel)
  have e3 : (V.str "s") = .str ⟨#[115]⟩ := congrArg V.str (by decide +kernel)
  have e4 : (V.str "w") = .str ⟨#[119]⟩ := congrArg V.str (by decide +kernel)
  rw [e1, e2, e3, e4]
  exact .cons (.str _) (.cons (.str _) (.cons (.str _) (.cons (.str _) .nil)))
section
variable {K : PySem.W.Frag}
/-- the body of both loops, whatever does the step -/
theorem so_moves {R : List PyData → PyData → Prop} {wi : TI} (h : Hall) (s : Stand) (o : SOk h s) (hR : ∀ k w, k < s.cells.length → Way w → R [hallD h, standD s, stepD (k : Nat) w] (doneD (stepDone h s k w)))
    (hwi : ∀ k : Nat, IE wi [some (hallD h), some (standD s), none, some (.int k), none, none] (ways4.map sg)) :
    SO (tFor (iRng1 (tCons (tCB (rLenX K) (tCons (tOp (rIx K) (tVar 1) (tC (.int 0))) tNil)) tNil)) (gName 3) (tFor wi (gName 4) (tSeq (tAsg (tCallD (spR R) (tCons (tVar 0) (tCons (tVar 1) (tCons (tTup (tCons (tVar 3) (tCons (tVar 4) tNil))) tNil)))) (gName 5)) (tIfS (tTest (tOp rNotN (tVar 5) (tC .non))) (tDrop (tBM K "list" rAppend (tVar 2) (tCons (tTup (tCons (tTup (tCons (tVar 3) (tCons (tVar 4) tNil))) (tCons (tOp (rIx K) (tVar 5) (tC (.int 0))) (tCons (tOp (rIx K) (tVar 5) (tC (.int 1))) tNil)))) tNil))) tNext))))
      2 [some (hallD h), some (standD s), none, none, none, none] [] [some (hallD h), some (standD s), none, none, none, none] (movesD h s) := by
  have nc := o.ncells
  have hi := ie_rng1 (ρ := [some (hallD h), some (standD s), none, none, none, none]) (ta := tCons (tCB (rLenX K) (tCons (tOp (rIx K) (tVar 1) (tC (.int 0))) tNil)) tNil) (n := ((s.cells.map cellD).length : Nat)) (ea_cons (ed_cb (ea_cons (ed_op (ed_var rfl) ed_int (r2_ixT rfl)) ea_nil) rc_lenT) ea_nil) (by omega) (by rw [List.length_map]; omega)
  rw [Int.toNat_natCast, List.length_map] at hi
  refine so_for (fun k => .int (k : Nat)) (addMoves h s) (by decide) hi (fun k hk ds0 hl0 => ?_) (fun ds0 x => Nat.le_trans (addMoves_len h s ds0 x) (by omega))
  have hkl : k < s.cells.length := List.mem_range.mp hk
  rw [List.length_range] at hl0
  simp only [List.length_nil] at hl0
  show SO _ 2 [some (hallD h), some (standD s), none, some (.int k), none, none] ds0 _ (ways4.foldl (addMove h s k) ds0)
  refine so_less (ρ' := [some (hallD h), some (standD s), none, some (.int k), none, none]) ?_ ((Rle.refl [some (hallD h), some (standD s), none, none, none, none]).set (i := 3) rfl)
  refine so_for sg (addMove h s k) (by decide) (hwi k) (fun w hw ds1 hl1 => ?_) (fun ds0 x => Nat.le_trans (addMove_len h s k ds0 x) (by omega))
  show SO _ 2 [some (hallD h), some (standD s), none, some (.int k), some (sg w), none] ds1 _ _
  have hww := ways4_way w hw
  have hl1' : ds1.length ≤ ds0.length + 400 := hl1
  refine so_seq (so_set (by decide) (ed_call (ea_cons (ed_var rfl) (ea_cons (ed_var rfl) (ea_cons (ed_tup (ea_cons (ed_var rfl) (ea_cons (ed_var rfl) ea_nil)) (by simp)) ea_nil))) (hR k w hkl hww))) ?_
  have rl : Rle [some (hallD h), some (standD s), none, some (.int k), none, none] [some (hallD h), some (standD s), none, some (.int k), some (sg w), some (doneD (stepDone h s k w))] :=
    ((Rle.refl [some (hallD h), some (standD s), none, some (.int k), none, none]).set (i := 4) (o := some (sg w)) rfl).set (i := 5) rfl
  refine so_less (ρ' := [some (hallD h), some (standD s), none, some (.int k), some (sg w), some (doneD (stepDone h s k w))]) ?_ rl
  unfold addMove
  cases hs : stepDone h s k w with
  | none =>
    exact so_if (b := false) (ET.is (et_test (ed_op (ed_var rfl) ed_non r2_notN)) rfl) (fun z => nomatch z) fun _ => so_next
  | some p =>
    refine so_if (b := true) (ET.is (et_test (ed_op (ed_var rfl) ed_non r2_notN)) rfl) (fun _ => ?_) (fun z => nomatch z)
    refine so_app (d := moveD (k, w, p.1, p.2)) (ED.is (ed_tup (ea_cons (ed_tup (ea_cons (ed_var rfl) (ea_cons (ed_var rfl) ea_nil)) (by simp)) (ea_cons (ed_op (ed_var rfl) ed_int (r2_ixT rfl)) (ea_cons (ed_op (ed_var rfl) ed_int (r2_ixT rfl)) ea_nil))) (by simp)) rfl) (by omega)
theorem rp_moves_from {aW : Addr} (hT : ∀ H : Hp, SqT K H aW [.str "e", .str "n", .str "s", .str "w"]) {ds : List PyData} {d : PyData} (h : R_moves ds d) :
    RD (rd_moves_from K aW (spR R_step_done)) (ds.map some ++ List.replicate (6 - ds.length) none) d := by
  obtain ⟨h, s, o⟩ := h
  exact rd_own (n := 0) (by simp) (so_moves h s o (fun k w hk hw => .mk h s k w o.ndoors o.nways o.ncells hk) fun k => ie_K hT ways_DHs)
/-! ### halls that are halls -/
structure HallOk (h : Hall) : Prop where
  rows : 1 ≤ h.rows ∧ h.rows ≤ 5
  cols : 1 ≤ h.cols ∧ h.cols ≤ 5
  nwalls : h.walls.length ≤ 24
  ndoors : h.doors.length ≤ 6
  walls : ∀ e ∈ h.walls, isEdge h e = true
  nodupW : h.walls.Nodup
  ways : ∀ e ∈ h.doors, Way e.2.2
  doors : ∀ e ∈ h.doors, isEdge h (edgeFrom e.1 e.2.1 e.2.2) = true
  apart : ∀ e ∈ h.doors, edgeFrom e.1 e.2.1 e.2.2 ∉ h.walls
  nodupD : (h.doors.map fun e => edgeFrom e.1 e.2.1 e.2.2).Nodup
structure CellsOk (h : Hall) (cs : List Cell) : Prop where
  pos : cs ≠ []
  most : cs.length ≤ 3
  cells : ∀ c ∈ cs, inH h c = true
  nodup : cs.Nodup
theorem isEdge_hv {h : Hall} {e : Edge} (he : isEdge h e = true) : HV e := by
  unfold isEdge at he
  simp only [Bool.and_eq_true] at he
  by_cases hh : e.2.2 = .h
  · exact .inl hh
  · rw [if_neg hh] at he
    simp only [Bool.and_eq_true, decide_eq_true_eq] at he
    exact .inr he.2.1
theorem not_mem_take {α : Type} {xs : List α} (h : xs.Nodup) {n : Nat} {x : α} (hx : xs[n]? = some x) : x ∉ xs.take n := fun hm => by
  obtain ⟨i, hi, e⟩ := List.mem_iff_getElem.mp hm
  rw [List.length_take] at hi
  rw [List.getElem_take] at e
  obtain ⟨hn, e2⟩ := List.getElem?_eq_some_iff.mp hx
  have h3 : xs[i] = xs[n] := by rw [e, e2]
  have := (List.getElem_inj h).mp h3
  omega
theorem cut_take (ds : List PyData) (n : Nat) (hn : n ≤ ds.length) : cutD ds none (some (n : Int)) = ds.take n := by
  unfold cutD
  rw [HT.sIx_none, HT.sIx_nat, List.drop_zero, Nat.min_eq_left hn, Nat.sub_zero]
/-! ### may -/
def firstS (h : Hall) (cs : List Cell) : Stand := ⟨cs, h.doors.map fun e => e.2.2⟩
theorem sok_first {h : Hall} {cs : List Cell} (o : HallOk h) (oc : CellsOk h cs) : SOk h (firstS h cs) where
  walls := fun e he => isEdge_hv (o.walls e he)
  nwalls := by have := o.nwalls; omega
  ndoors := by have := o.ndoors; omega
  ways := fun x hx => by
    obtain ⟨e, he, rfl⟩ := List.mem_map.mp hx
    exact o.ways e he
  nways := List.length_map _
  cells := oc.cells
  ncells := by have := oc.most; exact Nat.le_trans this (by decide)
/-- the steps of all moves -/
def fstD : PyData → PyData
  | .tuple (d :: _) => d
  | d => d
theorem fold_shape (P : PyData → Prop) {α : Type} (F : List PyData → α → List PyData) (hF : ∀ ds x, (∀ d ∈ ds, P d) → ∀ d ∈ F ds x, P d) : ∀ (xs : List α) (ds : List PyData), (∀ d ∈ ds, P d) → ∀ d ∈ xs.foldl F ds, P d
  | [], ds, h => h
  | x :: xs, ds, h => fold_shape P F hF xs (F ds x) (hF ds x h)
theorem movesD_shape (h : Hall) (s : Stand) : ∀ d ∈ movesD h s, ∃ m, d = moveD m := by
  refine fold_shape (fun d => ∃ m, d = moveD m) _ (fun ds k hds => ?_) _ [] (fun d hd => nomatch hd)
  refine fold_shape (fun d => ∃ m, d = moveD m) _ (fun ds w hds => ?_) _ ds hds
  intro d hd
  unfold addMove at hd
  split at hd
  · exact hds d hd
  · rcases List.mem_append.mp hd with z | z
    · exact hds d z
    · simp at z
      exact ⟨_, z⟩
theorem movesD_len (h : Hall) (s : Stand) (hs : s.cells.length ≤ 100) : (movesD h s).length ≤ 400 := by
  have key : ∀ (xs : List Nat) (ds : List PyData), (xs.foldl (addMoves h s) ds).length ≤ ds.length + 4 * xs.length := by
    intro xs
    induction xs with
    | nil => intro ds; simp
    | cons x xs ih =>
      intro ds
      have h1 := ih (addMoves h s ds x)
      have h2 := addMoves_len h s ds x
      simp only [List.foldl_cons, List.length_cons]
      omega
  have := key (List.range s.cells.length) []
  rw [List.length_range] at this
  simp only [List.length_nil] at this
  unfold movesD
  omega
end
end Pd
/-! Sem8 -/
set_option Elab.async false
set_option linter.all false
set_option maxRecDepth 100000
set_option maxHeartbeats 4000000
namespace Pd
variable [Pd.Wd]
open PySem PySem.Spec PyProof.Rows L2 PySem.W
local macro_rules | `(tactic| walk_at "ed") => `(tactic| repeat' (first
  | with_reducible (first
    | exact ed_int | exact ed_str | exact ed_bl | exact ed_non
    | exact ea_nil | refine' ea_cons ?_ ?_
    | refine' ed_isi ?_ ?_ | refine' ed_isi2 ?_ ?_ ?_
    | refine' ed_andV ?_ (fun _ => ?_) | refine' ed_orV ?_ (fun _ => ?_) | refine' ed_notV ?_
    | refine' ed_chain ?_ ?_ ?_ (fun _ => ⟨?_, ?_⟩)
    | refine' ed_tup ?_ ?_ | refine' ed_lst ?_ ?_
    | refine' et_not ?_ | refine' et_and ?_ (fun _ => ?_) | refine' et_or ?_ (fun _ => ?_) | exact et_yes
    | refine' et_test ?_ | refine' et_B ?_
    | refine' ed_op ?_ ?_ ?_
    | refine' ed_cb ?_ ?_)
  | exact ed_var rfl
  | exact kit_tt | exact kit_ii | exact kit_ib | exact kit_ll | exact kit_lt | exact kit_tl
  | exact r2_addI | exact r2_subI | exact r2_lt | exact r2_le | exact r2_gt | exact r2_ge | exact r2_isN | exact r2_notN
  | exact rc_lenT | exact rc_lenL | exact rc_intB | exact rc_tupL
  | with_reducible (first | refine' r2_eq ?_ ?_ | refine' r2_ne ?_ ?_)
  | exact sh_int _ | exact sh_sg _ | exact sh_cell _ | exact sh_edge _ | exact sh_pair _ | exact sh_str _ (by decide +kernel)
  | exact r2_ixT rfl | exact r2_ixL rfl
  | refine' ed_tup ?_ ?_
  | (show List.length _ ≤ 100000; simp; done)))
/-! ### the draws: the law's row -/
def Pu (te : TE) (σ : L2.St) (H : Hp) (v : V) : Prop := ∀ Q : VK, Q v H → te σ H Q
section
variable {K : PySem.W.Frag} {σ : L2.St} {H : Hp} {ta tb te : TE} {i j : Int} {v : V}
theorem pu_var {n : Nat} (h : σ[n]? = some (some v)) : Pu (tVar n) σ H v := fun Q q => ⟨v, h, q⟩
theorem pu_c : Pu (tC v) σ H v := fun Q q => q
theorem pu_i0 {g : Int → Int → V} (ha : Pu ta σ H (.int i)) (hb : Pu tb σ H (.int j)) : Pu (tOp (rI0 g) ta tb) σ H (g i j) := fun Q q => ha _ (hb _ ⟨i, j, rfl, rfl, q⟩)
theorem pu_iC {C : Int → Int → Prop} {g : Int → Int → V} (ha : Pu ta σ H (.int i)) (hb : Pu tb σ H (.int j)) (hc : C i j) : Pu (tOp (rI C g) ta tb) σ H (g i j) := fun Q q => ha _ (hb _ ⟨i, j, rfl, rfl, hc, q⟩)
theorem go_iC {C : Int → Int → Prop} {g : Int → Int → V} {Q : VK} (ha : Pu ta σ H (.int i)) (hb : Pu tb σ H (.int j)) (hc : C i j) (q : Q (g i j) H) : tOp (rI C g) ta tb σ H Q := pu_iC ha hb hc Q q
theorem pu_add (ha : Pu ta σ H (.int i)) (hb : Pu tb σ H (.int j)) : Pu (tOp (rAddX K) ta tb) σ H (.int (i + j)) := fun Q q => ha _ (hb _ (.inl ⟨i, j, rfl, rfl, q⟩))
theorem pu_mul (ha : Pu ta σ H (.int i)) (hb : Pu tb σ H (.int j)) (hc : CMul i j) : Pu (tOp rMulX ta tb) σ H (.int (i * j)) := fun Q q => ha _ (hb _ (.inl ⟨i, j, rfl, rfl, hc, q⟩))
theorem pu_ix {a : Addr} {xs : List V} (ha : Pu ta σ H (.ref a)) (hb : Pu tb σ H (.int i)) (h : SqL K H a xs) (hi : atI xs i = some v) : Pu (tOp (rIx K) ta tb) σ H v := fun Q q => ha _ (hb _ (.inl ⟨a, xs, i, v, rfl, rfl, h, hi, q⟩))
theorem pu_len {a : Addr} {xs : List V} (ha : Pu ta σ H (.ref a)) (h : SqL K H a xs) : Pu (tCB (rLenX K) (tCons ta tNil)) σ H (.int (xs.length : Nat)) := fun Q q => ha _ ⟨_, xs.length, rfl, .inl ⟨xs, h, rfl⟩, q⟩
end
def rowL (sc : Addr) (a b c : Int) : HO := .lst [.ref sc, .int a, .int b, .int c]
structure RowOk (a b c : Int) : Prop where
  a : 0 ≤ a
  b : 0 ≤ b ∧ b < 2147483647
  c : 0 ≤ c
/-- the row at l over the script at sc -/
structure RowAt (K : PySem.W.Frag) (H : Hp) (l sc : Addr) (ns : List Int) : Prop where
  row : ∃ a b c, H l = some (rowL sc a b c) ∧ RowOk a b c
  scr : ∃ B : Hp, Ex B H ∧ B l = none ∧ SqL K B sc (ns.map V.int)
theorem RowAt.rd {K : PySem.W.Frag} {H : Hp} {l sc : Addr} {ns : List Int} (r : RowAt K H l sc ns) : SqL K H sc (ns.map V.int) := let ⟨_, e, _, s⟩ := r.scr; e.seqL s
theorem SqL.upd_ne {K : PySem.W.Frag} {H : Hp} {a l : Addr} {xs : List V} {o : HO} (h : SqL K H a xs) (ne : a ≠ l) : SqL K (upd H l o) a xs := by
  rcases h with (h | ⟨u, h⟩) | h
  · exact .inl (.inl (by rw [L2.upd_ne ne]; exact h))
  · exact .inl (.inr ⟨u, by rw [L2.upd_ne ne]; exact h⟩)
  · exact .inr h
theorem RowAt.upd {K : PySem.W.Frag} {H : Hp} {l sc : Addr} {ns : List Int} {a b c : Int} (r : RowAt K H l sc ns) (o : RowOk a b c) : RowAt K (L2.upd H l (rowL sc a b c)) l sc ns :=
  ⟨⟨a, b, c, upd_same, o⟩, let ⟨B, e, n, s⟩ := r.scr; ⟨B, e.mut n, n, s⟩⟩
def sp_L_taken (K : PySem.W.Frag) : Sp := fun vs H Q _ => ∃ (l sc : Addr) (ns : List Int) (m : Int), vs = [.ref l, .int m] ∧ 1 ≤ m ∧ m ≤ 1000000000 ∧ RowAt K H l sc ns ∧
  ∀ (a b c n : Int), RowOk a b c → 0 ≤ n → n < m → Q (.int n) (upd H l (rowL sc a b c))
theorem rp_L_taken {K : PySem.W.Frag} {vs : List V} {H : Hp} {Q : VK} {E : XK} (h : sp_L_taken K vs H Q E) : rd_L_taken K { nx := fun _ H' => Q .non H', rt := Q } (L2.start ["_law_row", "_law_many", "_law_found", "_law_cell"] vs) H := by
  obtain ⟨l, sc, ns, m, rfl, h1, h2, r, q⟩ := h
  obtain ⟨⟨a, b, c, hrow, ro⟩, _⟩ := id r
  have hL : SqL K H l [.ref sc, .int a, .int b, .int c] := SqL.of hrow
  have hm0 : (0 : Int) < m := by omega
  have hdv : ∀ x : Int, CDiv x m := fun x => ⟨hm0, by show m < 1073741824; omega⟩
  show rd_L_taken K _ [some (.ref l), some (.int m), none, none] H
  unfold rd_L_taken
  -- the rest of a great cell
  refine pu_i0 (pu_ix (pu_var (n := 0) rfl) pu_c hL (v := .int c) rfl) pu_c _ ⟨_, rfl, ?_⟩
  refine ite2 (fun hc => ?_) (fun hc => ?_)
  · refine pu_iC (pu_ix (pu_var (n := 0) rfl) pu_c hL (v := .int c) rfl) (pu_var (n := 1) rfl) hm0 _ ?_
    refine pu_iC (pu_ix (pu_var (n := 0) rfl) pu_c hL (v := .int c) rfl) (pu_var (n := 1) rfl) (hdv _) _ ?_
    refine pu_var (n := 0) rfl _ (pu_c _ ⟨l, _, 3, 3, rfl, rfl, hrow, rfl, ?_⟩)
    refine ⟨_, rfl, ?_⟩
    exact q a b (c / m) (c % m) ⟨ro.a, ro.b, Int.ediv_nonneg ro.c (by omega)⟩ (Int.emod_nonneg _ (by omega)) (Int.emod_lt_of_pos _ hm0)
  · refine pu_add (pu_ix (pu_var (n := 0) rfl) pu_c hL (v := .int a) rfl) pu_c _ ?_
    refine pu_var (n := 0) rfl _ (pu_c _ ⟨l, _, 1, 1, rfl, rfl, hrow, rfl, ?_⟩)
    show tSeq _ _ _ _ (upd H l (rowL sc (a + 1) b c))
    have r1 : RowAt K (upd H l (rowL sc (a + 1) b c)) l sc ns := r.upd ⟨by have := ro.a; omega, ro.b, ro.c⟩
    have hL1 : SqL K (upd H l (rowL sc (a + 1) b c)) l [.ref sc, .int (a + 1), .int b, .int c] := SqL.of upd_same
    have hrow1 : (upd H l (rowL sc (a + 1) b c)) l = some (.lst [.ref sc, .int (a + 1), .int b, .int c]) := upd_same
    have hcm : CMul b 48271 := .inl (by have := ro.b; omega)
    refine pu_i0 (pu_ix (pu_var (n := 0) rfl) pu_c hL1 (v := .int (a + 1)) rfl) (pu_len (pu_ix (pu_var (n := 0) rfl) pu_c hL1 (v := .ref sc) rfl) r1.rd) _ ⟨_, rfl, ?_⟩
    refine ite2 (fun hb => ?_) (fun hb => ?_)
    · refine pu_iC (pu_add (pu_mul (pu_ix (pu_var (n := 0) rfl) pu_c hL1 (v := .int b) rfl) pu_c hcm) pu_c) pu_c (by decide) _ ?_
      refine pu_var (n := 0) rfl _ (pu_c _ ⟨l, _, 2, 2, rfl, rfl, hrow1, rfl, ?_⟩)
      rw [upd_upd]
      have hb2 : 0 ≤ (b * 48271 + 11) % 2147483647 ∧ (b * 48271 + 11) % 2147483647 < 2147483647 := ⟨Int.emod_nonneg _ (by decide), Int.emod_lt_of_pos _ (by decide)⟩
      have hL2 : SqL K (upd H l (rowL sc (a + 1) ((b * 48271 + 11) % 2147483647) c)) l [.ref sc, .int (a + 1), .int ((b * 48271 + 11) % 2147483647), .int c] := SqL.of upd_same
      show tOp rModI (tOp rFdivI (tOp (rIx K) (tVar 0) (tC (.int 2))) (tC (.int 7))) (tVar 1) [some (.ref l), some (.int m), none, none] (upd H l (rowL sc (a + 1) ((b * 48271 + 11) % 2147483647) c)) _
      refine go_iC (pu_iC (C := CDiv) (i := (b * 48271 + 11) % 2147483647) (j := 7) (g := fun i j => .int (i / j)) (pu_ix (pu_var (n := 0) rfl) pu_c hL2 (v := .int ((b * 48271 + 11) % 2147483647)) rfl) pu_c ⟨by decide, by decide⟩) (pu_var (n := 1) rfl) hm0 ?_
      exact q (a + 1) _ c _ ⟨by have := ro.a; omega, hb2, ro.c⟩ (Int.emod_nonneg _ (by omega)) (Int.emod_lt_of_pos _ hm0)
    · have hb' : ¬ ((((ns.map V.int).length : Nat) : Int) < a + 1) := by simpa using hb
      rw [List.length_map] at hb'
      have ha := ro.a
      have hlt : a.toNat < ns.length := by omega
      have hat : atI (ns.map V.int) (a + 1 - 1) = some (.int ns[a.toNat]) := by
        have e : a + 1 - 1 = ((a.toNat : Nat) : Int) := by omega
        rw [e]
        exact atI_nat (by rw [List.getElem?_map, List.getElem?_eq_getElem hlt]; rfl)
      generalize ns[a.toNat] = x at hat
      refine pu_ix (pu_ix (pu_var (n := 0) rfl) pu_c hL1 (v := .ref sc) rfl) (pu_i0 (pu_ix (pu_var (n := 0) rfl) pu_c hL1 (v := .int (a + 1)) rfl) pu_c) r1.rd hat _ ?_
      refine pu_iC (pu_add (pu_add (pu_mul (pu_ix (pu_var (n := 0) rfl) pu_c hL1 (v := .int b) rfl) pu_c hcm) (pu_var (n := 3) rfl)) pu_c) pu_c (by decide) _ ?_
      refine pu_var (n := 0) rfl _ (pu_c _ ⟨l, _, 2, 2, rfl, rfl, hrow1, rfl, ?_⟩)
      rw [upd_upd]
      have hb2 : 0 ≤ (b * 48271 + x + 11) % 2147483647 ∧ (b * 48271 + x + 11) % 2147483647 < 2147483647 := ⟨Int.emod_nonneg _ (by decide), Int.emod_lt_of_pos _ (by decide)⟩
      refine pu_i0 (pu_var (n := 3) rfl) (pu_iC pu_c pu_c ⟨by decide, by decide, by decide⟩) _ ⟨_, rfl, ?_⟩
      have hrow2 : (upd H l (.lst (List.set [.ref sc, .int (a + 1), .int b, .int c] 2 (.int ((b * 48271 + x + 11) % 2147483647))))) l = some (.lst [.ref sc, .int (a + 1), .int ((b * 48271 + x + 11) % 2147483647), .int c]) := upd_same
      refine ite2 (fun hg => ?_) (fun hg => ?_)
      · have hx : (0 : Int) ≤ x := by
          have h10 : (10 : Int) ^ (18 : Int).toNat ≤ x := of_decide_eq_true hg
          have : (10 : Int) ^ (18 : Int).toNat = 1000000000000000000 := by decide
          omega
        refine go_iC (pu_var (n := 3) rfl) (pu_var (n := 1) rfl) (hdv _) ?_
        refine pu_var (n := 0) rfl _ (pu_c _ ⟨l, _, 3, 3, rfl, rfl, hrow2, rfl, ?_⟩)
        rw [upd_upd]
        unfold tRet
        refine go_iC (pu_var (n := 3) rfl) (pu_var (n := 1) rfl) hm0 ?_
        exact q (a + 1) _ (x / m) (x % m) ⟨by omega, hb2, Int.ediv_nonneg hx (by omega)⟩ (Int.emod_nonneg _ (by omega)) (Int.emod_lt_of_pos _ hm0)
      · unfold tRet
        refine go_iC (pu_var (n := 3) rfl) (pu_var (n := 1) rfl) hm0 ?_
        exact q (a + 1) _ c (x % m) ⟨by omega, hb2, ro.c⟩ (Int.emod_nonneg _ (by omega)) (Int.emod_lt_of_pos _ hm0)
end Pd
/-! PdI -/
set_option Elab.async false
set_option linter.all false
set_option maxRecDepth 100000
set_option maxHeartbeats 4000000
/-! defs that draw from the row: what they do to the heap, and lists of their own -/
namespace Pd
variable [Pd.Wd]
open PySem PySem.Spec PyProof.Rows L2

/-- the row l over the script sc, beside the base -/
structure Dr (K : PySem.W.Frag) (l sc : Addr) (ns : List Int) (B H : Hp) : Prop where
  t : Ex B H
  row : ∃ a b c, H l = some (rowL sc a b c) ∧ RowOk a b c
  scr : SqL K B sc (ns.map V.int)
  nl : B l = none
/-- all but the row stays -/
structure GrW (l : Addr) (B H B' H' : Hp) : Prop where
  b : Ex B B'
  h : ∀ a u, a ≠ l → H a = some u → H' a = some u
  n : ∀ a, B a = none → H a ≠ none → B' a = none
theorem Dr.nn {K : PySem.W.Frag} {l sc : Addr} {ns : List Int} {B H : Hp} (d : Dr K l sc ns B H) : H l ≠ none := by
  obtain ⟨a, b, c, h, _⟩ := d.row
  rw [h]
  exact fun z => nomatch z
theorem Dr.gr {K : PySem.W.Frag} {l sc : Addr} {ns : List Int} {B H B' H' : Hp} (d : Dr K l sc ns B H) (g : Gr B H B' H') : Dr K l sc ns B' H' :=
  ⟨g.t, let ⟨a, b, c, h, o⟩ := d.row; ⟨a, b, c, g.h _ _ h, o⟩, g.b.seqL d.scr, g.n _ d.nl d.nn⟩
theorem Gr.w {l : Addr} {B H B' H' : Hp} (g : Gr B H B' H') : GrW l B H B' H' := ⟨g.b, fun a u _ e => g.h a u e, g.n⟩
theorem GrW.nn {K : PySem.W.Frag} {l sc : Addr} {ns : List Int} {B H B' H' : Hp} (g : GrW l B H B' H') (d : Dr K l sc ns B' H') {a : Addr} (h : H a ≠ none) : H' a ≠ none := by
  by_cases e : a = l
  · subst e
    exact d.nn
  · cases q : H a with
    | none => exact absurd q h
    | some u =>
      rw [g.h a u e q]
      exact fun z => nomatch z
theorem GrW.trans {K : PySem.W.Frag} {l sc : Addr} {ns : List Int} {B H B1 H1 B2 H2 : Hp} (a : GrW l B H B1 H1) (d : Dr K l sc ns B1 H1) (b : GrW l B1 H1 B2 H2) : GrW l B H B2 H2 :=
  ⟨a.b.trans b.b, fun x u n e => b.h x u n (a.h x u n e), fun x h1 h2 => b.n x (a.n x h1 h2) (a.nn d h2)⟩

/-- a def that draws: it is handed the row and data, and tells data -/
def spW (K : PySem.W.Frag) (Pre : List PyData → Prop) (R : List PyData → PyData → Prop) : Sp := fun vs H Q _ => ∃ l sc ns B ws ds, vs = .ref l :: ws ∧ DHs B ws ds ∧ Dr K l sc ns B H ∧ Pre ds ∧
  ∀ v d B' H', R ds d → Dr K l sc ns B' H' → GrW l B H B' H' → DH B' v d → Q v H'
def P_taken (ds : List PyData) : Prop := ∃ m : Int, ds = [.int m] ∧ 1 ≤ m ∧ m ≤ 1000000000
def R_taken (ds : List PyData) (d : PyData) : Prop := ∃ m n : Int, ds = [.int m] ∧ d = .int n ∧ 0 ≤ n ∧ n < m
theorem sp_taken {K : PySem.W.Frag} {vs : List V} {H : Hp} {Q : VK} {E : XK} (h : spW K P_taken R_taken vs H Q E) : sp_L_taken K vs H Q E := by
  obtain ⟨l, sc, ns, B, ws, ds, rfl, hd, d, ⟨m, rfl, h1, h2⟩, q⟩ := h
  cases hd with
  | cons a r =>
    cases r
    cases a
    refine ⟨l, sc, ns, m, rfl, h1, h2, ⟨d.row, B, d.t, d.nl, d.scr⟩, fun a b c n ok hn hm => ?_⟩
    refine q _ (.int n) B _ ⟨m, n, rfl, rfl, hn, hm⟩ ⟨fun x u hx => ?_, ⟨a, b, c, upd_same, ok⟩, d.scr, d.nl⟩ ⟨Ex.refl B, fun x u hx e => ?_, fun x e _ => e⟩ (.int n)
    · have : x ≠ l := fun z => by rw [z, d.nl] at hx; cases hx
      rw [upd_ne this]
      exact d.t _ _ hx
    · rw [upd_ne hx]
      exact e

abbrev OS := List (Nat × List PyData)
/-- where a def stands: r the row's slot; base and heap as they were at its beginning -/
structure Cfg where
  K : PySem.W.Frag
  r : Nat
  l : Addr
  sc : Addr
  ns : List Int
  B1 : Hp
  H1 : Hp
structure Iv (c : Cfg) (A : Nat → Addr) (σ : L2.St) (B H : Hp) (ρ : Rho) (os : OS) : Prop where
  d : Dr c.K c.l c.sc c.ns B H
  g : GrW c.l c.B1 c.H1 B H
  e : EnvD σ B ρ
  s0 : σ[c.r]? = some (some (.ref c.l))
  own : ∀ p ∈ os, σ[p.1]? = some (some (.ref (A p.1))) ∧ B (A p.1) = none ∧ c.H1 (A p.1) = none ∧ A p.1 ≠ c.l ∧ ∃ xs, H (A p.1) = some (.lst xs) ∧ DHs B xs p.2
  ap : ∀ p ∈ os, ∀ q ∈ os, p.1 ≠ q.1 → A p.1 ≠ A q.1
theorem Iv.w {c : Cfg} {A : Nat → Addr} {σ : L2.St} {B H B' H' : Hp} {ρ : Rho} {os : OS} (o : Iv c A σ B H ρ os) (d : Dr c.K c.l c.sc c.ns B' H') (g : GrW c.l B H B' H') : Iv c A σ B' H' ρ os := by
  refine ⟨d, o.g.trans o.d g, o.e.mono g.b, o.s0, fun p hp => ?_, o.ap⟩
  obtain ⟨h1, h2, h3, h4, xs, h5, h6⟩ := o.own p hp
  exact ⟨h1, g.n _ h2 (by rw [h5]; exact fun z => nomatch z), h3, h4, xs, g.h _ _ h4 h5, h6.mono g.b⟩
theorem Iv.gr {c : Cfg} {A : Nat → Addr} {σ : L2.St} {B H B' H' : Hp} {ρ : Rho} {os : OS} (o : Iv c A σ B H ρ os) (g : Gr B H B' H') : Iv c A σ B' H' ρ os := o.w (o.d.gr g) g.w
theorem Iv.less {c : Cfg} {A : Nat → Addr} {σ : L2.St} {B H : Hp} {ρ ρ' : Rho} {os : OS} (o : Iv c A σ B H ρ os) (k : Rle ρ' ρ) : Iv c A σ B H ρ' os := ⟨o.d, o.g, o.e.less k, o.s0, o.own, o.ap⟩
theorem Iv.set {c : Cfg} {A : Nat → Addr} {σ : L2.St} {B H : Hp} {ρ : Rho} {os : OS} {i : Nat} {v : V} {d : PyData} (o : Iv c A σ B H ρ os) (dv : DH B v d) (hr : i ≠ c.r) (ho : ∀ p ∈ os, i ≠ p.1) : Iv c A (σ.set i (some v)) B H (ρ.set i (some d)) os := by
  refine ⟨o.d, o.g, o.e.set i dv, by rw [List.getElem?_set_ne hr]; exact o.s0, fun p hp => ?_, o.ap⟩
  obtain ⟨h1, h2⟩ := o.own p hp
  exact ⟨by rw [List.getElem?_set_ne (ho p hp)]; exact h1, h2⟩
/-- a list of one's own is dropped -/
theorem Iv.drop {c : Cfg} {A : Nat → Addr} {σ : L2.St} {B H : Hp} {ρ : Rho} {os os' : OS} (o : Iv c A σ B H ρ os) (h : ∀ p ∈ os', p ∈ os) : Iv c A σ B H ρ os' :=
  ⟨o.d, o.g, o.e, o.s0, fun p hp => o.own p (h p hp), fun p hp q hq => o.ap p (h p hp) q (h q hq)⟩

theorem Iv.own_in {c : Cfg} {A : Nat → Addr} {σ : L2.St} {B H : Hp} {ρ : Rho} {os : OS} {j : Nat} {ds : List PyData} (o : Iv c A σ B H ρ ((j, ds) :: os)) (hj : ∀ p ∈ os, p.1 ≠ j) :
    ∃ B', Ex B B' ∧ Iv c A σ B' H (ρ.set j (some (.list ds))) os := by
  obtain ⟨h1, h2, h3, h4, xs, h5, h6⟩ := o.own _ (List.mem_cons_self ..)
  have eb : Ex B (upd B (A j) (.lst xs)) := Ex.new h2
  have dl : DH (upd B (A j) (.lst xs)) (.ref (A j)) (.list ds) := .lst upd_same (h6.mono eb)
  refine ⟨_, eb, ⟨⟨fun x u hx => ?_, o.d.row, eb.seqL o.d.scr, ?_⟩, ⟨o.g.b.trans eb, o.g.h, fun x hx hn => ?_⟩, (o.e.mono eb).tell j h1 dl, o.s0, fun p hp => ?_, fun p hp q hq => o.ap p (List.mem_cons_of_mem _ hp) q (List.mem_cons_of_mem _ hq)⟩⟩
  · by_cases e : x = A j
    · subst e
      rw [upd_same] at hx
      cases hx
      exact h5
    · rw [upd_ne e] at hx
      exact o.d.t _ _ hx
  · rw [upd_ne (fun z => h4 z.symm)]
    exact o.d.nl
  · rw [upd_ne (fun z => hn (by rw [z]; exact h3))]
    exact o.g.n x hx hn
  · obtain ⟨g1, g2, g3, g4, ys, g5, g6⟩ := o.own p (List.mem_cons_of_mem _ hp)
    refine ⟨g1, ?_, g3, g4, ys, g5, g6.mono eb⟩
    rw [upd_ne (o.ap p (List.mem_cons_of_mem _ hp) _ (List.mem_cons_self ..) (hj p hp))]
    exact g2
/-- it holds no address -/
def Flat (d : PyData) : Prop := ∀ H H' v, DH H v d → DH H' v d
theorem flat_int (i : Int) : Flat (.int i) := fun H H' v h => by cases h; exact .int i
/-- a list of one's own looked at -/
theorem Iv.view {c : Cfg} {A : Nat → Addr} {σ : L2.St} {B H : Hp} {ρ : Rho} {os : OS} {j : Nat} {ds : List PyData} (o : Iv c A σ B H ρ os) (hp : (j, ds) ∈ os) :
    ∃ B', Ex B' H ∧ EnvD σ B' (ρ.set j (some (.list ds))) ∧ ∀ B2 H2, Gr B' H B2 H2 → ∃ B3, Ex B B3 ∧ Iv c A σ B3 H2 ρ os := by
  obtain ⟨h1, h2, h3, h4, xs, h5, h6⟩ := o.own _ hp
  have eb : Ex B (upd B (A j) (.lst xs)) := Ex.new h2
  have dl : DH (upd B (A j) (.lst xs)) (.ref (A j)) (.list ds) := .lst upd_same (h6.mono eb)
  refine ⟨_, fun x u hx => ?_, (o.e.mono eb).tell j h1 dl, fun B2 H2 g => ?_⟩
  · by_cases e : x = A j
    · subst e
      rw [upd_same] at hx
      cases hx
      exact h5
    · rw [upd_ne e] at hx
      exact o.d.t _ _ hx
  have e3 : Ex B (fun x => if x = A j then none else B2 x) := fun x u hx => by
    have e : x ≠ A j := fun z => by rw [z, h2] at hx; cases hx
    show (if x = A j then none else B2 x) = some u
    rw [if_neg e]
    exact g.b _ _ (eb _ _ hx)
  refine ⟨fun x => if x = A j then none else B2 x, e3, o.gr ⟨e3, fun x u hx => ?_, g.h, fun x hx hn => ?_⟩⟩
  · have hx' : (if x = A j then none else B2 x) = some u := hx
    by_cases e : x = A j
    · rw [if_pos e] at hx'
      cases hx'
    · rw [if_neg e] at hx'
      exact g.t _ _ hx'
  · show (if x = A j then none else B2 x) = none
    by_cases e : x = A j
    · rw [if_pos e]
    · rw [if_neg e]
      exact g.n x (by rw [upd_ne e]; exact hx) hn

/-! ### expressions that may draw -/
section
variable {K : PySem.W.Frag} {c : Cfg} {A : Nat → Addr} {σ : L2.St} {B H : Hp} {ρ ρ' : Rho} {os os' : OS} {te tb tc : TE} {tt tu : TT} {ta tr : TA} {d e : PyData} {ds es : List PyData} {P P2 : PyData → Prop} {i j : Nat}
def EI (c : Cfg) (te : TE) (ρ : Rho) (os : OS) (P : PyData → Prop) : Prop := ∀ A σ B H, Iv c A σ B H ρ os → ∀ Q : VK, (∀ v d B' H', Iv c A σ B' H' ρ os → Ex B B' → DH B' v d → P d → Q v H') → te σ H Q
def AI (c : Cfg) (ta : TA) (ρ : Rho) (os : OS) (P : List PyData → Prop) : Prop := ∀ A σ B H, Iv c A σ B H ρ os → ∀ Q : List V → Hp → Prop, (∀ vs ds B' H', Iv c A σ B' H' ρ os → Ex B B' → DHs B' vs ds → P ds → Q vs H') → ta σ H Q
def TI' (c : Cfg) (tt : TT) (ρ : Rho) (os : OS) (P : Bool → Prop) : Prop := ∀ A σ B H, Iv c A σ B H ρ os → ∀ Q : Bool → Hp → Prop, (∀ b B' H', Iv c A σ B' H' ρ os → P b → Q b H') → tt σ H Q
theorem ei_pure (h : ED te ρ d) : EI c te ρ os (· = d) := fun A σ B H o Q q => h σ B H o.d.t o.e Q fun v B' H' g dv => q v d B' H' (o.gr g) g.b dv rfl
theorem ei_view (h : ED te (ρ.set j (some (.list ds))) d) (hp : (j, ds) ∈ os) (hf : Flat d) : EI c te ρ os (· = d) := fun A σ B H o Q q => by
  obtain ⟨B', h1, h2, h3⟩ := o.view hp
  refine h σ B' H h1 h2 Q fun v B2 H2 g dv => ?_
  obtain ⟨B3, e3, o3⟩ := h3 B2 H2 g
  exact q v d B3 H2 o3 e3 (hf _ _ _ dv) rfl
theorem EI.imp (h : EI c te ρ os P) (k : ∀ d, P d → P2 d) : EI c te ρ os P2 := fun A σ B H o Q q => h A σ B H o Q fun v d B' H' o' ex dv hd => q v d B' H' o' ex dv (k d hd)
theorem ti_view {b : Bool} (h : ET tt (ρ.set j (some (.list ds))) b) (hp : (j, ds) ∈ os) : TI' c tt ρ os (· = b) := fun A σ B H o Q q => by
  obtain ⟨B', h1, h2, h3⟩ := o.view hp
  refine h σ B' H h1 h2 Q fun B2 H2 g => ?_
  obtain ⟨B3, _, o3⟩ := h3 B2 H2 g
  exact q b B3 H2 o3 rfl
theorem ti_pure {b : Bool} (h : ET tt ρ b) : TI' c tt ρ os (· = b) := fun A σ B H o Q q => h σ B H o.d.t o.e Q fun B' H' g => q b B' H' (o.gr g) rfl
theorem ti_test {P : Bool → Prop} (h : EI c te ρ os (fun d => ∃ b, d = .bool b ∧ P b)) : TI' c (tTest te) ρ os P := fun A σ B H o Q q => by
  refine h A σ B H o _ fun v d B' H' o' ex dv ⟨b, e, hb⟩ => ?_
  subst e
  cases dv
  exact ⟨b, rfl, q b B' H' o' hb⟩
theorem ti_and {a : Bool} {P : Bool → Prop} (h1 : TI' c tt ρ os (· = a)) (h2 : a = true → TI' c tu ρ os P) (hf : a = false → P false) : TI' c (tAnd tt tu) ρ os P := fun A σ B H o Q q => by
  refine h1 A σ B H o _ fun b B' H' o' e => ?_
  subst e
  cases b with
  | true => exact h2 rfl A σ B' H' o' _ fun b2 B2 H2 o2 hb => q b2 B2 H2 o2 hb
  | false => exact q false B' H' o' (hf rfl)
theorem ai_nil : AI c tNil ρ os (· = []) := fun A σ B H o Q q => q [] [] B H o (Ex.refl B) .nil rfl
theorem ai_cons {P' : PyData → List PyData → Prop} (h : EI c te ρ os P) (k : ∀ d, P d → AI c tr ρ os (P' d)) : AI c (tCons te tr) ρ os (fun ds => ∃ d es, ds = d :: es ∧ P d ∧ P' d es) := fun A σ B H o Q q => by
  refine h A σ B H o _ fun v d B1 H1 o1 ex dv hd => ?_
  refine k d hd A σ B1 H1 o1 _ fun vs es B2 H2 o2 ex2 dvs hes => ?_
  exact q _ _ B2 H2 o2 (ex.trans ex2) (.cons (dv.mono ex2) dvs) ⟨d, es, rfl, hd, hes⟩
theorem ai_pure (h : EA ta ρ ds) : AI c ta ρ os (· = ds) := fun A σ B H o Q q => h σ B H o.d.t o.e Q fun v B' H' g dv => q v ds B' H' (o.gr g) g.b dv rfl
theorem AI.imp {P P2 : List PyData → Prop} (h : AI c ta ρ os P) (k : ∀ d, P d → P2 d) : AI c ta ρ os P2 := fun A σ B H o Q q => h A σ B H o Q fun v d B' H' o' ex dv hd => q v d B' H' o' ex dv (k d hd)
theorem ei_op {rr : R2} {Pa : PyData → Prop} {Pb : PyData → PyData → Prop} (ha : EI c te ρ os Pa) (hb : ∀ a, Pa a → EI c tb ρ os (Pb a)) (hr : ∀ a b, Pa a → Pb a b → ∃ z, RD2 rr a b z ∧ P z) : EI c (tOp rr te tb) ρ os P := fun A σ B H o Q q => by
  refine ha A σ B H o _ fun x a B1 H1 o1 ex1 d1 p1 => ?_
  refine hb a p1 A σ B1 H1 o1 _ fun y b B2 H2 o2 ex2 d2 p2 => ?_
  obtain ⟨z, rz, pz⟩ := hr a b p1 p2
  exact rz B2 H2 x y o2.d.t (d1.mono ex2) d2 Q fun v B' H' g dv => q v z B' H' (o2.gr g) ((ex1.trans ex2).trans g.b) dv pz
theorem ei_tup {P' : List PyData → Prop} (h : AI c ta ρ os P') (hl : ∀ ds, P' ds → ds.length ≤ 100000) : EI c (tTup ta) ρ os (fun d => ∃ ds, d = .tuple ds ∧ P' ds) := fun A σ B H o Q q => by
  refine h A σ B H o _ fun vs ds B1 H1 o1 ex1 d1 p1 => ⟨?_, fun p hp => ?_⟩
  · rw [d1.length]
    exact Nat.le_trans (hl ds p1) (by decide)
  · have g := Gr.new (o := .tup vs) o1.d.t hp
    exact q _ _ _ _ (o1.gr g) (ex1.trans g.b) (.tup upd_same (d1.mono g.b)) ⟨ds, rfl, p1⟩
/-- a draw, or what else draws -/
theorem ei_callW {Pre : List PyData → Prop} {R : List PyData → PyData → Prop} {P' : List PyData → Prop} (h : AI c ta ρ os P') (hp : ∀ ds, P' ds → Pre ds) : EI c (tCallD (spW c.K Pre R) (tCons (tVar c.r) ta)) ρ os (fun d => ∃ ds, P' ds ∧ R ds d) := fun A σ B H o Q q => by
  refine ⟨_, o.s0, ?_⟩
  refine h A σ B H o _ fun vs ds B1 H1 o1 ex1 d1 p1 => ?_
  refine ⟨c.l, c.sc, c.ns, B1, vs, ds, by rw [List.append_nil], d1, o1.d, hp ds p1, fun v d B' H' r1 d2 g2 dv => ?_⟩
  exact q v d B' H' (o1.w d2 g2) (ex1.trans g2.b) dv ⟨ds, p1, r1⟩
/-- drawn below many -/
theorem ei_drawI {m : Int} (h : EI c te ρ os (· = .int m)) (h1 : 1 ≤ m) (h2 : m ≤ 1000) : EI c (tCallD (spW c.K P_taken R_taken) (tCons (tVar c.r) (tCons te tNil))) ρ os (fun d => ∃ n : Nat, d = .int n ∧ (n : Int) < m) := by
  refine (ei_callW (ai_cons h fun d _ => ai_nil) ?_).imp ?_
  · rintro ds ⟨d, es, rfl, rfl, rfl⟩
    exact ⟨m, rfl, h1, by omega⟩
  · rintro d ⟨ds, ⟨d', es, rfl, rfl, rfl⟩, m', n, e, rfl, h3, h4⟩
    simp only [List.cons.injEq, PyData.int.injEq, and_true] at e
    subst e
    exact ⟨n.toNat, by rw [Int.toNat_of_nonneg h3], by omega⟩
theorem ei_draw {m : Int} (h : ED te ρ (.int m)) (h1 : 1 ≤ m) (h2 : m ≤ 1000) : EI c (tCallD (spW c.K P_taken R_taken) (tCons (tVar c.r) (tCons te tNil))) ρ os (fun d => ∃ n : Nat, d = .int n ∧ (n : Int) < m) := ei_drawI (ei_pure h) h1 h2

/-! ### statements -/
theorem go_asg {D : Ends} (o : Iv c A σ B H ρ os) (h : EI c te ρ os P) (hr : i ≠ c.r) (ho : ∀ p ∈ os, i ≠ p.1) (k : ∀ d, P d → ∀ σ B H, Iv c A σ B H (ρ.set i (some d)) os → D.nx σ H) : tAsg te (gName i) D σ H :=
  h A σ B H o _ fun v d B' H' o' ex dv hd => k d hd _ B' H' (o'.set dv hr ho)
theorem go_if {P : Bool → Prop} {t u : TS} {D : Ends} (o : Iv c A σ B H ρ os) (h : TI' c tt ρ os P) (h1 : P true → ∀ B H, Iv c A σ B H ρ os → t D σ H) (h2 : P false → ∀ B H, Iv c A σ B H ρ os → u D σ H) : tIfS tt t u D σ H :=
  h A σ B H o _ fun b B' H' o' hb => by
    cases b with
    | true => exact h1 hb B' H' o'
    | false => exact h2 hb B' H' o'
theorem go_ret {D : Ends} (o : Iv c A σ B H ρ os) (h : EI c te ρ os P) (k : ∀ v d B' H', Iv c A σ B' H' ρ os → DH B' v d → P d → D.rt v H') : tRet te D σ H :=
  h A σ B H o _ fun v d B' H' o' ex dv hd => k v d B' H' o' dv hd
theorem go_par {P : List PyData → Prop} {D : Ends} (o : Iv c A σ B H ρ os) (h : AI c ta ρ os P) (hl : ∀ ds, P ds → ∃ d e, ds = [d, e]) (hi : i ≠ c.r) (hj : j ≠ c.r) (hoi : ∀ p ∈ os, i ≠ p.1) (hoj : ∀ p ∈ os, j ≠ p.1)
    (k : ∀ d e, P [d, e] → ∀ σ B H, Iv c A σ B H ((ρ.set i (some d)).set j (some e)) os → D.nx σ H) : tPar i j ta D σ H := by
  refine h A σ B H o _ fun vs ds B' H' o' ex dv hd => ?_
  obtain ⟨d, e, rfl⟩ := hl ds hd
  cases dv with
  | cons a r =>
  cases r with
  | cons b r =>
    cases r
    exact ⟨_, _, rfl, k d e hd _ B' H' ((o'.set a hi hoi).set b hj hoj)⟩
/-- an expression that makes a new list -/
def EN (te : TE) (ρ : Rho) (ds : List PyData) : Prop := ∀ σ B H, Ex B H → EnvD σ B ρ → ∀ Q : VK, (∀ a xs B' H', Gr B H B' H' → B' a = none → H a = none → H' a = some (.lst xs) → DHs B' xs ds → Q (.ref a) H') → te σ H Q
theorem en_lst (h : EA ta ρ ds) (hl : ds.length ≤ 100000) : EN (tLst ta) ρ ds := fun σ B H ex ev Q q => by
  refine h σ B H ex ev _ fun xs B1 H1 g1 d1 => ⟨?_, fun p hp => ?_⟩
  · rw [d1.length]
    exact Nat.le_trans hl (by decide)
  · exact q p xs B1 _ (g1.trans (Gr.own g1.t hp)) (g1.t.nil hp) (g1.h.nil hp) upd_same d1
theorem en_cat (ha : ED te ρ (.list ds)) (hb : ED tb ρ (.list es)) (hl : ds.length + es.length ≤ 100000) : EN (tOp (rAddX K) te tb) ρ (ds ++ es) := fun σ B H ex ev Q q => by
  refine ha σ B H ex ev _ fun x B1 H1 g1 d1 => ?_
  refine hb σ B1 H1 g1.t (ev.mono g1.b) _ fun y B2 H2 g2 d2 => ?_
  have d1' := d1.mono g2.b
  cases d1' with
  | @lst a xs _ ha hs =>
  cases d2 with
  | @lst b ys _ hb hs' =>
    refine .inr (.inr (.inr ⟨a, b, xs, ys, rfl, rfl, g2.t _ _ ha, g2.t _ _ hb, ?_, fun p hp => ?_⟩))
    · rw [hs.length, hs'.length]
      exact Nat.le_trans hl (by decide)
    · exact q p _ B2 _ ((g1.trans g2).trans (Gr.own g2.t hp)) (g2.t.nil hp) ((g1.trans g2).h.nil hp) upd_same (hs.append hs')
/-- xs = a new list, one's own -/
theorem go_own {D : Ends} (o : Iv c A σ B H ρ os) (h : EN te ρ ds) (hr : j ≠ c.r) (ho : ∀ p ∈ os, j ≠ p.1) (hj : j < ρ.length) (k : ∀ A σ B H, Iv c A σ B H (ρ.set j none) ((j, ds) :: os) → D.nx σ H) : tAsg te (gName j) D σ H := by
  refine h σ B H o.d.t o.e _ fun a xs B' H' g nB hn hl hx => ?_
  have o' := o.gr g
  have hne : ∀ p ∈ os, A p.1 ≠ a := fun p hp z => by
    obtain ⟨_, _, _, _, ys, h5, _⟩ := o.own p hp
    rw [z, hn] at h5
    cases h5
  have hal : a ≠ c.l := fun z => o.d.nn (by rw [← z]; exact hn)
  have hH1 : c.H1 a = none := by
    cases q : c.H1 a with
    | none => rfl
    | some u =>
      have := o.g.h a u hal q
      rw [hn] at this
      cases this
  refine k (fun x => if x = j then a else A x) _ B' H' ⟨o'.d, o'.g, o'.e.forget j _, by rw [List.getElem?_set_ne hr]; exact o'.s0, fun p hp => ?_, fun p hp q hq hpq => ?_⟩
  · rcases List.mem_cons.mp hp with rfl | hp
    · show (σ.set j (some (.ref a)))[j]? = some (some (.ref (if j = j then a else A j))) ∧ _
      simp only [if_true]
      exact ⟨List.getElem?_set_self (by rw [o.e.len]; exact hj), nB, hH1, hal, xs, hl, hx⟩
    · obtain ⟨h1, h2⟩ := o'.own p hp
      have e : p.1 ≠ j := fun z => ho p hp z.symm
      simp only [if_neg e]
      exact ⟨by rw [List.getElem?_set_ne (ho p hp)]; exact h1, h2⟩
  · rcases List.mem_cons.mp hp with rfl | hp
    · rcases List.mem_cons.mp hq with rfl | hq
      · exact absurd rfl hpq
      · have e : q.1 ≠ j := fun z => hpq z.symm
        simp only [if_true, if_neg e]
        exact fun z => hne q hq z.symm
    · have e : p.1 ≠ j := fun z => ho p hp z.symm
      rcases List.mem_cons.mp hq with rfl | hq
      · simp only [if_true, if_neg e]
        exact hne p hp
      · have e2 : q.1 ≠ j := fun z => ho q hq z.symm
        simp only [if_neg e, if_neg e2]
        exact o.ap p hp q hq hpq
/-- the first list of one's own changed -/
theorem Iv.mut {xs : List V} {es : List PyData} (o : Iv c A σ B H ρ ((j, ds) :: os)) (hj : ∀ p ∈ os, j ≠ p.1) (hx : DHs B xs es) : Iv c A σ B (upd H (A j) (.lst xs)) ρ ((j, es) :: os) := by
  obtain ⟨h1, h2, h3, h4, ys, h5, h6⟩ := o.own _ (List.mem_cons_self ..)
  refine ⟨⟨o.d.t.mut h2, ?_, o.d.scr, o.d.nl⟩, ⟨o.g.b, fun x u hx e => ?_, o.g.n⟩, o.e, o.s0, fun p hp => ?_, fun p hp q hq hpq => ?_⟩
  · rw [upd_ne (fun z => h4 z.symm)]
    exact o.d.row
  · rw [upd_ne (fun z => by rw [z, h3] at e; cases e)]
    exact o.g.h x u hx e
  · rcases List.mem_cons.mp hp with rfl | hp
    · exact ⟨h1, h2, h3, h4, xs, upd_same, hx⟩
    · obtain ⟨g1, g2, g3, g4, zs, g5, g6⟩ := o.own p (List.mem_cons_of_mem _ hp)
      refine ⟨g1, g2, g3, g4, zs, ?_, g6⟩
      rw [upd_ne (fun z => o.ap (j, ds) (List.mem_cons_self ..) p (List.mem_cons_of_mem _ hp) (hj p hp) z.symm)]
      exact g5
  · rcases List.mem_cons.mp hp with rfl | hp
    · rcases List.mem_cons.mp hq with rfl | hq
      · exact absurd rfl hpq
      · exact o.ap (j, ds) (List.mem_cons_self ..) q (List.mem_cons_of_mem _ hq) hpq
    · rcases List.mem_cons.mp hq with rfl | hq
      · exact o.ap p (List.mem_cons_of_mem _ hp) (j, ds) (List.mem_cons_self ..) hpq
      · exact o.ap p (List.mem_cons_of_mem _ hp) q (List.mem_cons_of_mem _ hq) hpq
/-- xs.append(e) -/
theorem go_app {D : Ends} (o : Iv c A σ B H ρ ((j, ds) :: os)) (hj : ∀ p ∈ os, j ≠ p.1) (h : EI c te ρ ((j, ds) :: os) P) (hz : ds.length < 100000) (k : ∀ d, P d → ∀ B H, Iv c A σ B H ρ ((j, ds ++ [d]) :: os) → D.nx σ H) :
    tDrop (tBM K "list" rAppend (tVar j) (tCons te tNil)) D σ H := by
  obtain ⟨h1, h2, h3, h4, ys, h5, h6⟩ := o.own _ (List.mem_cons_self ..)
  refine ⟨_, h1, ⟨.inl ⟨rfl, _, SqL.of h5⟩, ?_⟩⟩
  refine h A σ B H o _ fun v d B' H' o' ex dv hd => ?_
  obtain ⟨g1, g2, g3, g4, zs, g5, g6⟩ := o'.own _ (List.mem_cons_self ..)
  refine ⟨_, zs, v, rfl, rfl, g5, ?_, k d hd B' _ (o'.mut hj (g6.append (.one dv)))⟩
  rw [g6.length]
  exact Nat.lt_trans hz (by decide)
/-- the turn of the lists of one's own does not matter -/
theorem Iv.perm (o : Iv c A σ B H ρ os) (h : ∀ p ∈ os', p ∈ os) : Iv c A σ B H ρ os' := o.drop h
/-- a for over range(..), whose end may be drawn -/
theorem go_rng {D : Ends} {Pm : Int → Prop} (o : Iv c A σ B H ρ os) (h : EI c te ρ os (fun d => ∃ m, d = .int m ∧ 0 ≤ m ∧ m ≤ 1000 ∧ Pm m)) (hi : i ≠ c.r) (P : Int → Nat → Rho → OS → Prop) (hk : ∀ m n ρ os, P m n ρ os → ∀ p ∈ os, i ≠ p.1)
    (p0 : ∀ m, 0 ≤ m → Pm m → P m 0 ρ os) {tb : TS}
    (turn : ∀ m, Pm m → ∀ n : Nat, (n : Int) < m → ∀ ρ os, P m n ρ os → ∀ A σ B H N, Iv c A σ B H (ρ.set i (some (.int n))) os → (∀ A σ B H ρ' os', P m (n + 1) ρ' os' → Iv c A σ B H ρ' os' → N σ H) → tb { D with nx := N, ct := N, bk := D.nx } σ H)
    (k : ∀ m, 0 ≤ m → Pm m → ∀ ρ' os', P m m.toNat ρ' os' → ∀ A σ B H, Iv c A σ B H ρ' os' → D.nx σ H) : tFor (iRng1 (tCons te tNil)) (gName i) tb D σ H := by
  refine h A σ B H o _ fun v d B1 H1 o1 ex dv ⟨m, e, h0, h1, hm⟩ => ?_
  subst e
  cases dv
  refine ⟨m, rfl, by omega, by omega, ?_⟩
  refine ⟨fun n w σ H => w = m.toNat - n ∧ n ≤ m.toNat ∧ ∃ A B ρ os, P m n ρ os ∧ Iv c A σ B H ρ os, ⟨m.toNat, by omega, Nat.zero_le _, A, B1, ρ, os, p0 m h0 hm, o1⟩, ?_⟩
  rintro n w σ' H' ⟨rfl, hle, A', B', ρ', os', hP, o'⟩
  by_cases hlt : n < m.toNat
  · right
    refine ⟨hlt, fun σ H => n + 1 ≤ m.toNat ∧ ∃ A B ρ os, P m (n + 1) ρ os ∧ Iv c A σ B H ρ os, fun σ2 H2 ⟨q1, q2⟩ => ⟨m.toNat - (n + 1), by omega, rfl, q1, q2⟩, fun x H2 hy => ?_⟩
    obtain ⟨rfl, e⟩ := hy
    have e0 : (0 : Int) + ((n : Nat) : Int) = (n : Int) := Int.zero_add _
    rw [e0] at e
    subst e
    exact turn m hm n (by omega) ρ' os' hP A' _ B' _ _ (o'.set (.int _) hi (hk m n ρ' os' hP)) fun A2 σ2 B2 H2 ρ2 os2 hP2 o2 => ⟨hlt, A2, B2, ρ2, os2, hP2, o2⟩
  · left
    have : n = m.toNat := by omega
    subst this
    exact ⟨Nat.le_refl _, k m h0 hm ρ' os' hP A' σ' B' H' o'⟩
end
end Pd
/-! Sem9 -/
set_option Elab.async false
set_option linter.all false
set_option maxRecDepth 100000
set_option maxHeartbeats 4000000
namespace Pd
variable [Pd.Wd]
open PySem PySem.Spec PyProof.Rows L2 PySem.W
local macro_rules | `(tactic| walk_at "ed") => `(tactic| repeat' (first
  | with_reducible (first
    | exact ed_int | exact ed_str | exact ed_bl | exact ed_non
    | exact ea_nil | refine' ea_cons ?_ ?_
    | refine' ed_isi ?_ ?_ | refine' ed_isi2 ?_ ?_ ?_
    | refine' ed_andV ?_ (fun _ => ?_) | refine' ed_orV ?_ (fun _ => ?_) | refine' ed_notV ?_
    | refine' ed_chain ?_ ?_ ?_ (fun _ => ⟨?_, ?_⟩)
    | refine' ed_tup ?_ ?_ | refine' ed_lst ?_ ?_
    | refine' et_not ?_ | refine' et_and ?_ (fun _ => ?_) | refine' et_or ?_ (fun _ => ?_) | exact et_yes
    | refine' et_test ?_ | refine' et_B ?_
    | refine' ed_op ?_ ?_ ?_
    | refine' ed_cb ?_ ?_)
  | exact ed_var rfl
  | exact kit_tt | exact kit_ii | exact kit_ib | exact kit_ll | exact kit_lt | exact kit_tl
  | exact r2_addI | exact r2_subI | exact r2_lt | exact r2_le | exact r2_gt | exact r2_ge | exact r2_isN | exact r2_notN
  | exact rc_lenT | exact rc_lenL | exact rc_intB | exact rc_tupL
  | with_reducible (first | refine' r2_eq ?_ ?_ | refine' r2_ne ?_ ?_)
  | exact sh_int _ | exact sh_sg _ | exact sh_cell _ | exact sh_edge _ | exact sh_pair _ | exact sh_str _ (by decide +kernel)
  | exact r2_ixT rfl | exact r2_ixL rfl
  | refine' ed_tup ?_ ?_
  | (show List.length _ ≤ 100000; simp; done)))
theorem env_cons {x : Option V} {σ : L2.St} {B : Hp} {ρ : Rho} (h : EnvD σ B ρ) : EnvD (x :: σ) B (none :: ρ) := by
  refine ⟨by rw [List.length_cons, List.length_cons, h.len], fun i d q => ?_⟩
  cases i with
  | zero => simp at q
  | succ i =>
    obtain ⟨v, h1, h2⟩ := h.get i d (by simpa using q)
    exact ⟨v, by simpa using h1, h2⟩
/-- the row in slot 0, these constants -/
def CK (c : Cfg) (K : PySem.W.Frag) : Prop := c.r = 0 ∧ c.K = K
/-- a def that draws, at its beginning -/
theorem iv_start {K : PySem.W.Frag} {Pre : List PyData → Prop} {R : List PyData → PyData → Prop} {vs : List V} {H : Hp} {Q : VK} {E : XK} (h : spW K Pre R vs H Q E) (x : Str) (N : List Str) (hN : ∀ ds, Pre ds → ds.length ≤ N.length) :
    ∃ (c : Cfg) (ds : List PyData), CK c K ∧ Pre ds ∧ (∀ A, Iv c A (L2.start (x :: N) vs) c.B1 H (none :: (ds.map some ++ List.replicate (N.length - ds.length) none)) []) ∧
      ∀ A σ v d B' H' ρ' os', R ds d → Iv c A σ B' H' ρ' os' → DH B' v d → Q v H' := by
  obtain ⟨l, sc, ns, B, ws, ds, rfl, hd, dr, hp, q⟩ := h
  refine ⟨⟨K, 0, l, sc, ns, B, H⟩, ds, ⟨rfl, rfl⟩, hp, fun A => ⟨dr, ⟨Ex.refl B, fun _ _ _ e => e, fun _ e _ => e⟩, ?_, ?_, fun p hp => absurd hp (by simp), fun p hp => absurd hp (by simp)⟩, fun A σ v d B' H' ρ' os' r o dv => q v d B' H' r o.d o.g dv⟩
  · have e : L2.start (x :: N) (.ref l :: ws) = some (.ref l) :: L2.start N ws := by
      unfold L2.start
      simp
    rw [e]
    exact env_cons (env_start hd (by rw [hd.length]; exact hN ds hp))
  · unfold L2.start
    simp
theorem ei_drawE {K : PySem.W.Frag} {c : Cfg} {ρ : Rho} {os : OS} {te : TE} {m : Int} (hr : CK c K) (h : ED te ρ (.int m)) (h1 : 1 ≤ m) (h2 : m ≤ 1000) : EI c (tCallD (spW K P_taken R_taken) (tCons (tVar 0) (tCons te tNil))) ρ os (fun d => ∃ n : Nat, d = .int n ∧ (n : Int) < m) := by
  obtain ⟨h0, rfl⟩ := hr
  rw [← h0]
  exact ei_draw h h1 h2
/-- 1 + a draw below m -/
theorem ei_draw1 {K : PySem.W.Frag} {c : Cfg} {ρ : Rho} {os : OS} {te : TE} {m : Int} (hr : CK c K) (h : ED te ρ (.int m)) (h1 : 1 ≤ m) (h2 : m ≤ 1000) : EI c (tOp (rAddX K) (tC (.int 1)) (tCallD (spW K P_taken R_taken) (tCons (tVar 0) (tCons te tNil)))) ρ os (fun d => ∃ n : Int, d = .int n ∧ 1 ≤ n ∧ n ≤ m) := by
  refine ei_op (ei_pure ed_int) (fun a _ => ei_drawE (K := K) hr h h1 h2) ?_
  rintro a b rfl ⟨n, rfl, hn⟩
  exact ⟨_, r2_addI, 1 + n, rfl, by omega, by omega⟩
theorem go_seq {t u : TS} {D : Ends} {σ : L2.St} {H : Hp} (h : t { D with nx := u D } σ H) : tSeq t u D σ H := h
/-! ### the cells that are drawn -/
end Pd
/-! Sem10 -/
set_option Elab.async false
set_option linter.all false
set_option maxRecDepth 100000
set_option maxHeartbeats 4000000
namespace Pd
variable [Pd.Wd]
open PySem PySem.Spec PyProof.Rows L2 PySem.W
local macro_rules | `(tactic| walk_at "ed") => `(tactic| repeat' (first
  | with_reducible (first
    | exact ed_int | exact ed_str | exact ed_bl | exact ed_non
    | exact ea_nil | refine' ea_cons ?_ ?_
    | refine' ed_isi ?_ ?_ | refine' ed_isi2 ?_ ?_ ?_
    | refine' ed_andV ?_ (fun _ => ?_) | refine' ed_orV ?_ (fun _ => ?_) | refine' ed_notV ?_
    | refine' ed_chain ?_ ?_ ?_ (fun _ => ⟨?_, ?_⟩)
    | refine' ed_tup ?_ ?_ | refine' ed_lst ?_ ?_
    | refine' et_not ?_ | refine' et_and ?_ (fun _ => ?_) | refine' et_or ?_ (fun _ => ?_) | exact et_yes
    | refine' et_test ?_ | refine' et_B ?_
    | refine' ed_op ?_ ?_ ?_
    | refine' ed_cb ?_ ?_)
  | exact ed_var rfl
  | exact kit_tt | exact kit_ii | exact kit_ib | exact kit_ll | exact kit_lt | exact kit_tl
  | exact r2_addI | exact r2_subI | exact r2_lt | exact r2_le | exact r2_gt | exact r2_ge | exact r2_isN | exact r2_notN
  | exact rc_lenT | exact rc_lenL | exact rc_intB | exact rc_tupL
  | with_reducible (first | refine' r2_eq ?_ ?_ | refine' r2_ne ?_ ?_)
  | exact sh_int _ | exact sh_sg _ | exact sh_cell _ | exact sh_edge _ | exact sh_pair _ | exact sh_str _ (by decide +kernel)
  | exact r2_ixT rfl | exact r2_ixL rfl
  | refine' ed_tup ?_ ?_
  | (show List.length _ ≤ 100000; simp; done)))
section
variable {K : PySem.W.Frag} {c : Cfg} {A : Nat → Addr} {σ : L2.St} {B H : Hp} {ρ ρ' : Rho} {os os' : OS} {te tb tc : TE} {tt tu : TT} {ta tr : TA} {d e : PyData} {ds es : List PyData} {P P2 : PyData → Prop} {i j : Nat} {vs : List Nat}
/-- a new list, one's own, is put in a slot -/
theorem Iv.ownN {a : Addr} {xs : List V} (o : Iv c A σ B H ρ os) (hn : H a = none) (hx : DHs B xs ds) (hr : j ≠ c.r) (ho : ∀ p ∈ os, j ≠ p.1) (hj : j < ρ.length) :
    Iv c (fun x => if x = j then a else A x) (σ.set j (some (.ref a))) B (upd H a (.lst xs)) (ρ.set j none) ((j, ds) :: os) := by
  have g : Gr B H B (upd H a (.lst xs)) := Gr.own o.d.t hn
  have o' := o.gr g
  have nB : B a = none := o.d.t.nil hn
  have hl : upd H a (.lst xs) a = some (.lst xs) := upd_same
  have hne : ∀ p ∈ os, A p.1 ≠ a := fun p hp z => by
    obtain ⟨_, _, _, _, ys, h5, _⟩ := o.own p hp
    rw [z, hn] at h5
    cases h5
  have hal : a ≠ c.l := fun z => o.d.nn (by rw [← z]; exact hn)
  have hH1 : c.H1 a = none := by
    cases q : c.H1 a with
    | none => rfl
    | some u =>
      have := o.g.h a u hal q
      rw [hn] at this
      cases this
  refine ⟨o'.d, o'.g, o'.e.forget j _, by rw [List.getElem?_set_ne hr]; exact o'.s0, fun p hp => ?_, fun p hp q hq hpq => ?_⟩
  · rcases List.mem_cons.mp hp with rfl | hp
    · show (σ.set j (some (.ref a)))[j]? = some (some (.ref (if j = j then a else A j))) ∧ _
      simp only [if_true]
      exact ⟨List.getElem?_set_self (by rw [o.e.len]; exact hj), nB, hH1, hal, xs, hl, hx⟩
    · obtain ⟨h1, h2⟩ := o'.own p hp
      have e : p.1 ≠ j := fun z => ho p hp z.symm
      simp only [if_neg e]
      exact ⟨by rw [List.getElem?_set_ne (ho p hp)]; exact h1, h2⟩
  · rcases List.mem_cons.mp hp with rfl | hp
    · rcases List.mem_cons.mp hq with rfl | hq
      · exact absurd rfl hpq
      · have e : q.1 ≠ j := fun z => hpq z.symm
        simp only [if_true, if_neg e]
        exact fun z => hne q hq z.symm
    · have e : p.1 ≠ j := fun z => ho p hp z.symm
      rcases List.mem_cons.mp hq with rfl | hq
      · simp only [if_true, if_neg e]
        exact hne p hp
      · have e2 : q.1 ≠ j := fun z => ho q hq z.symm
        simp only [if_neg e, if_neg e2]
        exact o.ap p hp q hq hpq
/-- x, y, z = [], [], [] -/
theorem go_par3 {D : Ends} {k l : Nat} (o : Iv c A σ B H ρ os) (hj : j ≠ c.r) (hk : k ≠ c.r) (hl : l ≠ c.r) (hjk : k ≠ j) (hjl : l ≠ j) (hkl : l ≠ k) (oj : ∀ p ∈ os, j ≠ p.1) (ok : ∀ p ∈ os, k ≠ p.1) (ol : ∀ p ∈ os, l ≠ p.1)
    (lj : j < ρ.length) (lk : k < ρ.length) (ll : l < ρ.length) (q : ∀ A σ B H, Iv c A σ B H (((ρ.set j none).set k none).set l none) ((l, []) :: (k, []) :: (j, []) :: os) → D.nx σ H) :
    tPar3 j k l (tCons (tLst tNil) (tCons (tLst tNil) (tCons (tLst tNil) tNil))) D σ H := by
  refine ⟨Nat.zero_le _, fun a ha => ⟨Nat.zero_le _, fun b hb => ⟨Nat.zero_le _, fun d hd => ?_⟩⟩⟩
  refine ⟨_, _, _, rfl, ?_⟩
  have o1 := o.ownN (ds := []) ha .nil hj oj lj
  have o2 := o1.ownN (ds := []) (j := k) hb .nil hk (fun p hp => by
    rcases List.mem_cons.mp hp with rfl | hp
    · exact hjk
    · exact ok p hp) (by rw [List.length_set]; exact lk)
  have o3 := o2.ownN (ds := []) (j := l) hd .nil hl (fun p hp => by
    rcases List.mem_cons.mp hp with rfl | hp
    · exact hkl
    · rcases List.mem_cons.mp hp with rfl | hp
      · exact hjl
      · exact ol p hp) (by rw [List.length_set, List.length_set]; exact ll)
  exact q _ _ B _ o3
/-- xs.append(ys.pop(k)) -/
theorem go_pop {D : Ends} (hr : CK c K) (o : Iv c A σ B H ρ ((i, es) :: (j, ds) :: os)) (hij : i ≠ j) (hi : ∀ p ∈ os, i ≠ p.1) (hj : ∀ p ∈ os, j ≠ p.1)
    (hi' : i < ρ.length) (he : 1 ≤ es.length) (he2 : es.length ≤ 1000) (hz : ds.length < 100000)
    (k : ∀ n z, es[n]? = some z → ∀ B H, Iv c A σ B H ρ ((i, es.eraseIdx n) :: (j, ds ++ [z]) :: os) → D.nx σ H) :
    tDrop (tBM K "list" rAppend (tVar j) (tCons (tBM K "list" rPopAt (tVar i) (tCons (tCallD (spW K P_taken R_taken) (tCons (tVar 0) (tCons (tCB (rLenX K) (tCons (tVar i) tNil)) tNil))) tNil)) tNil)) D σ H := by
  obtain ⟨h1, h2, h3, h4, xs0, h5, h6⟩ := o.own (j, ds) (List.mem_cons_of_mem _ (List.mem_cons_self ..))
  obtain ⟨g1, g2, g3, g4, ys0, g5, g6⟩ := o.own (i, es) (List.mem_cons_self ..)
  refine ⟨_, h1, ⟨.inl ⟨rfl, _, SqL.of h5⟩, ?_⟩⟩
  refine ⟨_, g1, ⟨.inl ⟨rfl, _, SqL.of g5⟩, ?_⟩⟩
  have hd : EI c (tCallD (spW K P_taken R_taken) (tCons (tVar 0) (tCons (tCB (rLenX K) (tCons (tVar i) tNil)) tNil))) ρ ((i, es) :: (j, ds) :: os) (fun d => ∃ n : Nat, d = .int n ∧ (n : Int) < (es.length : Nat)) := by
    obtain ⟨h00, rfl⟩ := hr
    rw [← h00]
    refine ei_drawI (ei_view (j := i) (ds := es) ?_ (List.mem_cons_self ..) (flat_int _)) (by omega) (by omega)
    exact ed_cb (ea_cons (ed_var (List.getElem?_set_self hi')) ea_nil) rc_lenL
  refine hd A σ B H o _ fun v d B' H' o' ex dv ⟨n, e, hn⟩ => ?_
  subst e
  cases dv
  obtain ⟨a1, a2, a3, a4, ys, a5, a6⟩ := o'.own (i, es) (List.mem_cons_self ..)
  have hlen : ys.length = es.length := a6.length
  have hnl : n < es.length := by omega
  obtain ⟨y, hy, dy⟩ := a6.get (List.getElem?_eq_getElem hnl)
  have hseq : seqIndex? (n : Int) ys.length = some n := by
    have h0 : (0 : Int) ≤ (n : Int) := by omega
    have h1 : (n : Int) < (ys.length : Int) := by omega
    simp [seqIndex?, h0, h1, Int.not_lt.mpr h0]
  refine ⟨_, ys, n, n, y, rfl, rfl, a5, by omega, by omega, hseq, hy, ?_⟩
  have o2 := o'.mut (fun p hp => by
    rcases List.mem_cons.mp hp with rfl | hp
    · exact hij
    · exact hi p hp) (a6.erase n)
  have o3 := o2.perm (os' := (j, ds) :: (i, es.eraseIdx n) :: os) (fun p hp => by simp at hp ⊢; rcases hp with h | h | h <;> simp [h])
  obtain ⟨b1, b2, b3, b4, zs, b5, b6⟩ := o3.own (j, ds) (List.mem_cons_self ..)
  refine ⟨_, zs, y, rfl, rfl, b5, ?_, ?_⟩
  · rw [b6.length]
    exact Nat.lt_trans hz (by decide)
  · have o4 := o3.mut (fun p hp => by
      rcases List.mem_cons.mp hp with rfl | hp
      · exact fun z => hij z.symm
      · exact hj p hp) (b6.append (.one dy))
    have o5 := o4.perm (os' := (i, es.eraseIdx n) :: (j, ds ++ [es[n]]) :: os) (fun p hp => by simp at hp ⊢; rcases hp with h | h | h <;> simp [h])
    exact k n _ (List.getElem?_eq_getElem hnl) B' _ o5
theorem en_lcT {α : Type} {wi : TI} {g : TG} (items : List α) (enc : α → PyData) (f : α → Bool) (v : α → PyData) (hi : IE wi ρ (items.map enc)) (hz : items.length ≤ 100000)
    (ht : ∀ d ∈ items, ∃ ρ', GD g (wipeR ρ vs) (enc d) ρ' vs ∧ ET tt ρ' (f d) ∧ (f d = true → ED te ρ' (v d))) : EN (tLc wi g tt te vs) ρ ((items.filter f).map v) := fun σ B H ex ev Q q => by
  refine hi σ B H ex ev _ fun J B1 H1 g1 hJ Dl hD => ?_
  have nB1 : B1 Dl = none := g1.t.nil hD
  refine ⟨fun i m H' => m = items.length - i ∧ i ≤ items.length ∧ ∃ B' xs, Gr B1 H1 B' H' ∧ H' Dl = some (.lst xs) ∧ B' Dl = none ∧ DHs B' xs (((items.take i).filter f).map v), ⟨items.length, by omega, Nat.zero_le _, B1, [], Gr.own g1.t hD, upd_same, nB1, .nil⟩, ?_⟩
  rintro i m H' ⟨rfl, hle, B', xs, g2, hDl, nB', hx⟩
  obtain ⟨hstop, hgo⟩ := hJ B' H' g2.b g2.t i
  by_cases hlt : i < items.length
  · right
    have hd : items[i]? = some items[i] := List.getElem?_eq_getElem hlt
    obtain ⟨go, hy⟩ := hgo (enc items[i]) (by rw [List.getElem?_map, hd]; rfl)
    refine ⟨go, fun H2 => i + 1 ≤ items.length ∧ ∃ B' xs, Gr B1 H1 B' H2 ∧ H2 Dl = some (.lst xs) ∧ B' Dl = none ∧ DHs B' xs (((items.take (i + 1)).filter f).map v), fun H2 ⟨h1, h2⟩ => ⟨items.length - (i + 1), by omega, rfl, h1, h2⟩, fun x H2 hyl => ?_⟩
    obtain ⟨B2, g3, dx⟩ := hy x H2 hyl
    obtain ⟨ρ', hg, htt, hte⟩ := ht _ (List.mem_of_getElem? hd)
    have hDn : H' Dl ≠ none := by rw [hDl]; exact fun z => nomatch z
    have n2 : B2 Dl = none := g3.n _ nB' hDn
    have e2 := g3.h _ _ hDl
    refine hg (L2.wipe σ vs) B2 H2 x g3.t (((ev.mono g1.b).mono (g2.b.trans g3.b)).wipe vs) dx _ fun σ2 ev2 w2 => ⟨w2.trans (wipe_idem σ vs), ?_⟩
    refine htt σ2 B2 H2 g3.t ev2 _ fun B3 H3 g4 => ?_
    have n3 : B3 Dl = none := g4.n _ n2 (by rw [e2]; exact fun z => nomatch z)
    have e3 := g4.h _ _ e2
    have g234 := (g2.trans g3).trans g4
    have hfs := take_filter_succ (f := f) hd
    cases hf : f items[i] with
    | true =>
      refine hte hf σ2 B3 H3 g4.t (ev2.mono g4.b) _ fun y B4 H4 g5 d5 => ?_
      have n4 : B4 Dl = none := g5.n _ n3 (by rw [e3]; exact fun z => nomatch z)
      have e4 := g5.h _ _ e3
      have g25 := g234.trans g5
      refine ⟨xs, e4, ?_, hlt, B4, xs ++ [y], ⟨g25.b, g5.t.mut n4, g25.h.mut hD, g25.n⟩, upd_same, n4, ?_⟩
      · have hl := hx.length
        rw [hl, List.length_map]
        have h1 := List.length_filter_le f (items.take i)
        rw [List.length_take] at h1
        have : ((items.take i).filter f).length ≤ 100000 := by omega
        exact Nat.lt_of_le_of_lt this (by decide)
      · rw [hfs, hf, if_pos rfl, List.map_append]
        exact (hx.mono ((g3.b.trans g4.b).trans g5.b)).append (.one d5)
    | false =>
      refine ⟨hlt, B3, xs, g234, e3, n3, ?_⟩
      rw [hfs, hf, if_neg (by decide), List.append_nil]
      exact hx.mono (g3.b.trans g4.b)
  · left
    have hie : i = items.length := by omega
    subst hie
    refine ⟨hstop (by rw [List.length_map]), ?_⟩
    rw [List.take_length] at hx
    exact q Dl xs B' H' (g1.trans ⟨g2.b, g2.t, g2.h, g2.n⟩) nB' (g1.h.nil hD) hDl hx
theorem en_lcM {α : Type} {wi : TI} {g : TG} (items : List α) (enc : α → PyData) (v : α → PyData) (hi : IE wi ρ (items.map enc)) (hz : items.length ≤ 100000)
    (ht : ∀ d ∈ items, ∃ ρ', GD g (wipeR ρ vs) (enc d) ρ' vs ∧ ED te ρ' (v d)) : EN (tLc wi g tYes te vs) ρ (items.map v) := by
  have h := en_lcT (tt := tYes) (g := g) (vs := vs) (te := te) items enc (fun _ => true) v hi hz fun d hd => by
    obtain ⟨ρ', a, b⟩ := ht d hd
    exact ⟨ρ', a, et_yes, fun _ => b⟩
  rw [List.filter_eq_self.mpr (fun _ _ => rfl)] at h
  exact h
end
end Pd
/-! Sem11 -/
set_option Elab.async false
set_option linter.all false
set_option maxRecDepth 100000
set_option maxHeartbeats 4000000
namespace Pd
variable [Pd.Wd]
open PySem PySem.Spec PyProof.Rows L2 PySem.W
local macro_rules | `(tactic| walk_at "ed") => `(tactic| repeat' (first
  | with_reducible (first
    | exact ed_int | exact ed_str | exact ed_bl | exact ed_non
    | exact ea_nil | refine' ea_cons ?_ ?_
    | refine' ed_isi ?_ ?_ | refine' ed_isi2 ?_ ?_ ?_
    | refine' ed_andV ?_ (fun _ => ?_) | refine' ed_orV ?_ (fun _ => ?_) | refine' ed_notV ?_
    | refine' ed_chain ?_ ?_ ?_ (fun _ => ⟨?_, ?_⟩)
    | refine' ed_tup ?_ ?_ | refine' ed_lst ?_ ?_
    | refine' et_not ?_ | refine' et_and ?_ (fun _ => ?_) | refine' et_or ?_ (fun _ => ?_) | exact et_yes
    | refine' et_test ?_ | refine' et_B ?_
    | refine' ed_op ?_ ?_ ?_
    | refine' ed_cb ?_ ?_)
  | exact ed_var rfl
  | exact kit_tt | exact kit_ii | exact kit_ib | exact kit_ll | exact kit_lt | exact kit_tl
  | exact r2_addI | exact r2_subI | exact r2_lt | exact r2_le | exact r2_gt | exact r2_ge | exact r2_isN | exact r2_notN
  | exact rc_lenT | exact rc_lenL | exact rc_intB | exact rc_tupL
  | with_reducible (first | refine' r2_eq ?_ ?_ | refine' r2_ne ?_ ?_)
  | exact sh_int _ | exact sh_sg _ | exact sh_cell _ | exact sh_edge _ | exact sh_pair _ | exact sh_str _ (by decide +kernel)
  | exact r2_ixT rfl | exact r2_ixL rfl
  | refine' ed_tup ?_ ?_
  | (show List.length _ ≤ 100000; simp; done)))
/-! ### the hall that is drawn -/
def P_hall (ds : List PyData) : Prop := ds = [.int 5, .int 6]
def R_hall (ds : List PyData) (d : PyData) : Prop := ∃ h : Hall, HallOk h ∧ d = hallD h
/-- the edges between cells, as they are laid out -/
def leftRow (wide : Int) (r : Nat) : List Edge := ((List.range (wide * (if (0 : Int) < (r : Int) then 1 else 0)).toNat).map fun k => ((r : Int), ((k : Nat) : Int), Sg.h)) ++ ((List.range (wide - 1).toNat).map fun k => ((r : Int), 1 + ((k : Nat) : Int), Sg.v))
def leftOf (wide : Int) : Nat → List Edge
  | 0 => []
  | n + 1 => leftOf wide n ++ leftRow wide n
def lookLeft (rows wide : Nat) : Bool := decide ((leftOf (wide : Int) rows).Nodup) && (leftOf (wide : Int) rows).all fun e => isEdge ⟨(rows : Int), (wide : Int), [], []⟩ e
theorem look_all : ∀ r ∈ [1, 2, 3, 4, 5], ∀ w ∈ [1, 2, 3, 4, 5], lookLeft r w = true := by decide +kernel
theorem look_left {rows wide : Int} (h1 : 1 ≤ rows ∧ rows ≤ 5) (h2 : 1 ≤ wide ∧ wide ≤ 5) : (leftOf wide rows.toNat).Nodup ∧ ∀ e ∈ leftOf wide rows.toNat, isEdge ⟨rows, wide, [], []⟩ e = true := by
  have h := look_all rows.toNat (by
    have : rows.toNat = 1 ∨ rows.toNat = 2 ∨ rows.toNat = 3 ∨ rows.toNat = 4 ∨ rows.toNat = 5 := by omega
    simpa using this) wide.toNat (by
    have : wide.toNat = 1 ∨ wide.toNat = 2 ∨ wide.toNat = 3 ∨ wide.toNat = 4 ∨ wide.toNat = 5 := by omega
    simpa using this)
  unfold lookLeft at h
  rw [Int.toNat_of_nonneg (by omega), Int.toNat_of_nonneg (by omega)] at h
  simp only [Bool.and_eq_true, decide_eq_true_eq, List.all_eq_true] at h
  exact h
theorem len_left {wide : Int} (h2 : 1 ≤ wide ∧ wide ≤ 5) : ∀ n : Nat, (leftOf wide n).length ≤ 10 * n
  | 0 => by simp [leftOf]
  | n + 1 => by
    have := len_left h2 n
    have e1 : (wide * (if (0 : Int) < (n : Int) then 1 else 0)).toNat ≤ 5 := by
      split <;> omega
    have e2 : (wide - 1).toNat ≤ 5 := by omega
    simp only [leftOf, leftRow, List.length_append, List.length_map, List.length_range]
    omega
def doorsOk (h : Hall) (ds : List Edge) : Prop := (∀ e ∈ ds, Way e.2.2) ∧ (∀ e ∈ ds, isEdge h (edgeFrom e.1 e.2.1 e.2.2) = true) ∧ (∀ e ∈ ds, edgeFrom e.1 e.2.1 e.2.2 ∉ h.walls) ∧ (ds.map fun e => edgeFrom e.1 e.2.1 e.2.2).Nodup
def ef (e : Edge) : Edge := edgeFrom e.1 e.2.1 e.2.2
theorem eqv_nil {xs : List Edge} : PyData.eqv (.list (xs.map edgeD)) (.list []) = xs.isEmpty := by
  cases xs <;> simp [PyData.eqv, PyData.eqvAll]
theorem perm_erase {α : Type} : ∀ (xs : List α) (n : Nat) (z : α), xs[n]? = some z → List.Perm (z :: xs.eraseIdx n) xs
  | [], n, z, h => by simp at h
  | x :: xs, 0, z, h => by
    simp at h
    subst h
    simp
  | x :: xs, n + 1, z, h => by
    have ih := perm_erase xs n z (by simpa using h)
    exact (List.Perm.swap x z _).trans (ih.cons x)
/-- what the walls are, as they are drawn -/
structure WallsOk (rows wide : Int) (walls left : List Edge) : Prop where
  nd : (walls ++ left).Nodup
  edge : ∀ e ∈ walls ++ left, isEdge ⟨rows, wide, [], []⟩ e = true
  len : left.length ≤ 100
theorem WallsOk.pop {rows wide : Int} {walls left : List Edge} {n : Nat} {z : Edge} (h : WallsOk rows wide walls left) (hz : left[n]? = some z) : WallsOk rows wide (walls ++ [z]) (left.eraseIdx n) := by
  have hp : List.Perm (walls ++ [z] ++ left.eraseIdx n) (walls ++ left) := by
    rw [List.append_assoc]
    refine List.Perm.append_left walls ?_
    exact perm_erase left n z hz
  exact ⟨hp.nodup_iff.mpr h.nd, fun e he => h.edge e (hp.mem_iff.mp he), Nat.le_trans (by rw [List.length_eraseIdx]; split <;> omega) h.len⟩
theorem isEdge_rc {h h' : Hall} (h1 : h.rows = h'.rows) (h2 : h.cols = h'.cols) (e : Edge) : isEdge h e = isEdge h' e := by
  unfold isEdge inH
  rw [h1, h2]
theorem map_erase {α β : Type} (f : α → β) : ∀ (xs : List α) (n : Nat), (xs.map f).eraseIdx n = (xs.eraseIdx n).map f
  | [], _ => by simp
  | x :: xs, 0 => by simp
  | x :: xs, n + 1 => by simp [map_erase f xs n]

section
variable {K : PySem.W.Frag}
theorem ei_callW0 {c : Cfg} {ρ : Rho} {os : OS} {ta : TA} {Pre : List PyData → Prop} {R : List PyData → PyData → Prop} {P' : List PyData → Prop} (hr : CK c K) (h : AI c ta ρ os P') (hp : ∀ ds, P' ds → Pre ds) : EI c (tCallD (spW K Pre R) (tCons (tVar 0) ta)) ρ os (fun d => ∃ ds, P' ds ∧ R ds d) := by
  obtain ⟨h0, rfl⟩ := hr
  have := ei_callW (R := R) h hp
  rw [h0] at this
  exact this
theorem ei_135 {c : Cfg} {ρ : Rho} {os : OS} (hr : CK c K) : EI c (tCallD (spW K P_taken R_taken) (tCons (tVar 0) (tCons (tOp (rIx K) (tLst (tCons (tC (.int 1)) (tCons (tC (.int 3)) (tCons (tC (.int 5)) tNil)))) (tCallD (spW K P_taken R_taken) (tCons (tVar 0) (tCons (tC (.int 3)) tNil)))) tNil))) ρ os (fun d => ∃ m : Int, d = .int m ∧ 0 ≤ m ∧ m ≤ 1000 ∧ m ≤ 4) := by
  refine (ei_callW0 hr (ai_cons (P := fun d => ∃ m : Int, d = .int m ∧ 1 ≤ m ∧ m ≤ 5) (ei_op (ei_pure (ed_lst (ds := [.int 1, .int 3, .int 5]) (ea_cons ed_int (ea_cons ed_int (ea_cons ed_int ea_nil))) (by simp))) (fun _ _ => ei_drawE (K := K) (m := 3) hr ed_int (by decide) (by decide)) ?_) fun d _ => ai_nil) ?_).imp ?_
  · rintro a b rfl ⟨n, rfl, hn⟩
    have : n = 0 ∨ n = 1 ∨ n = 2 := by omega
    rcases this with rfl | rfl | rfl
    · exact ⟨.int 1, r2_ixL rfl, 1, rfl, by decide, by decide⟩
    · exact ⟨.int 3, r2_ixL rfl, 3, rfl, by decide, by decide⟩
    · exact ⟨.int 5, r2_ixL rfl, 5, rfl, by decide, by decide⟩
  · rintro ds ⟨d, es, rfl, ⟨m, rfl, h1, h2⟩, rfl⟩
    exact ⟨m, rfl, h1, by omega⟩
  · rintro d ⟨ds, ⟨d1, es, rfl, ⟨m, rfl, h1, h2⟩, rfl⟩, m', n, e, rfl, h3, h4⟩
    have : m = m' := by simpa using e
    exact ⟨n, rfl, h3, by omega, by omega⟩
theorem ei_ensw {c : Cfg} {ρ : Rho} {os : OS} (hr : CK c K) : EI c (tOp (rIx K) (tC (.str "ensw")) (tCallD (spW K P_taken R_taken) (tCons (tVar 0) (tCons (tC (.int 4)) tNil)))) ρ os (fun d => ∃ w : Sg, d = sg w ∧ Way w) := by
  refine ei_op (ei_pure ed_str) (fun _ _ => ei_drawE (K := K) (m := 4) hr ed_int (by decide) (by decide)) ?_
  rintro a b rfl ⟨n, rfl, hn⟩
  have h : ∀ (n : Nat) (w : Sg), atI ("ensw" : Str).cps.toList n = some w.code → RD2 (rIx K) (.str "ensw") (.int n) (sg w) := fun n w e => r2_ixS (by decide +kernel) e
  have : n = 0 ∨ n = 1 ∨ n = 2 ∨ n = 3 := by omega
  rcases this with rfl | rfl | rfl | rfl
  · exact ⟨_, h 0 .e (by decide +kernel), .e, rfl, .inl rfl⟩
  · exact ⟨_, h 1 .n (by decide +kernel), .n, rfl, .inr (.inl rfl)⟩
  · exact ⟨_, h 2 .s (by decide +kernel), .s, rfl, .inr (.inr (.inl rfl))⟩
  · exact ⟨_, h 3 .w (by decide +kernel), .w, rfl, .inr (.inr (.inr rfl))⟩
theorem rp_L_hall {vs : List V} {H : Hp} {Q : VK} {E : XK} (h : spW K P_hall R_hall vs H Q E) : rd_L_hall K (spR R_L_pair) (spR R_L_shut) (spW K P_taken R_taken) (spR R_L_within) { nx := fun _ H' => Q .non H', rt := Q }
    (L2.start ["_law_row", "_law_size", "_law_doors", "_law_high", "_law_wide", "_law_left", "_law_r", "_law_shuts", "_law_hung", "_law_stand", "_law_k", "_law_door", "_law_pair_here", "_law_shut_here", "_law_c"] vs) H := by
  obtain ⟨c, ds, hr, hp, o, q⟩ := iv_start h "_law_row" ["_law_size", "_law_doors", "_law_high", "_law_wide", "_law_left", "_law_r", "_law_shuts", "_law_hung", "_law_stand", "_law_k", "_law_door", "_law_pair_here", "_law_shut_here", "_law_c"] (fun ds e => by rw [e]; simp)
  have hp' : ds = [.int 5, .int 6] := hp
  subst hp'
  generalize L2.start ["_law_row", "_law_size", "_law_doors", "_law_high", "_law_wide", "_law_left", "_law_r", "_law_shuts", "_law_hung", "_law_stand", "_law_k", "_law_door", "_law_pair_here", "_law_shut_here", "_law_c"] vs = σ at o ⊢
  have o : Iv c (fun _ => 0) σ c.B1 H [none, some (.int 5), some (.int 6), none, none, none, none, none, none, none, none, none, none, none, none] [] := o _
  have hrn : ∀ i : Nat, 0 < i → i ≠ c.r := fun i hi => by rw [hr.1]; omega
  unfold rd_L_hall
  refine go_seq ?_
  refine go_par (P := fun ds => ∃ a b : Int, ds = [.int a, .int b] ∧ (1 ≤ a ∧ a ≤ 5) ∧ (1 ≤ b ∧ b ≤ 5)) o ((ai_cons (ei_draw1 (m := 5) hr (ed_var rfl) (by decide) (by decide)) fun _ _ => ai_cons (ei_draw1 (m := 5) hr (ed_var rfl) (by decide) (by decide)) fun _ _ => ai_nil).imp ?_) ?_ (hrn _ (by decide)) (hrn _ (by decide)) (by simp) (by simp) ?_
  · rintro ds ⟨d1, es, rfl, ⟨a, rfl, ha⟩, d2, es2, rfl, ⟨b, rfl, hb⟩, rfl⟩
    exact ⟨a, b, rfl, ha, hb⟩
  · rintro ds ⟨a, b, rfl, _⟩
    exact ⟨_, _, rfl⟩
  rintro d1 d2 ⟨high, wide, he, h1, h2⟩ σ B H o
  obtain ⟨rfl, rfl⟩ : d1 = .int high ∧ d2 = .int wide := by simpa using he
  have o : Iv c (fun _ => 0) σ B H [none, some (.int 5), some (.int 6), some (.int high), some (.int wide), none, none, none, none, none, none, none, none, none, none] [] := o
  -- left, as it is laid out
  refine go_seq ?_
  refine go_asg (P := (· = .list (([] : List Edge).map edgeD))) o (ei_pure (ed_lst ea_nil (by simp))) (hrn _ (by decide)) (by simp) ?_
  rintro d rfl σ B H o
  have o : Iv c (fun _ => 0) σ B H [none, some (.int 5), some (.int 6), some (.int high), some (.int wide), some (.list (([] : List Edge).map edgeD)), none, none, none, none, none, none, none, none, none] [] := o
  refine go_seq ?_
  refine go_rng (Pm := fun m => m = high) o ((ei_pure (ed_var (d := .int high) rfl)).imp ?_) (hrn _ (by decide))
    (fun _ n ρ os => (n = 0 ∧ os = [] ∧ ρ = [none, some (.int 5), some (.int 6), some (.int high), some (.int wide), some (.list ((leftOf wide 0).map edgeD)), none, none, none, none, none, none, none, none, none]) ∨ (1 ≤ n ∧ os = [(5, (leftOf wide n).map edgeD)] ∧ ρ = [none, some (.int 5), some (.int 6), some (.int high), some (.int wide), none, none, none, none, none, none, none, none, none, none])) ?_ ?_ ?_ ?_
  · rintro d rfl
    exact ⟨high, rfl, by omega, by omega, rfl⟩
  · rintro m n ρ os (⟨_, rfl, _⟩ | ⟨_, rfl, _⟩)
    · simp
    · simp
  · intro m _ _
    exact .inl ⟨rfl, rfl, rfl⟩
  · rintro m rfl n hn ρ os hP A σ B H N o k
    have o2 : ∃ B, Iv c A σ B H [none, some (.int 5), some (.int 6), some (.int m), some (.int wide), some (.list ((leftOf wide n).map edgeD)), some (.int n), none, none, none, none, none, none, none, none] [] := by
      rcases hP with ⟨rfl, rfl, rfl⟩ | ⟨_, rfl, rfl⟩
      · exact ⟨B, o⟩
      · obtain ⟨B', _, o'⟩ := o.own_in (by simp)
        exact ⟨B', o'⟩
    obtain ⟨B, o⟩ := o2
    have hl := len_left h2 n
    have e1 : (wide * (if (0 : Int) < (n : Int) then 1 else 0)).toNat ≤ 5 := by split <;> omega
    have e1' : wide * (if (0 : Int) < (n : Int) then 1 else 0) ≤ 5 := by split <;> omega
    have e1'' : 0 ≤ wide * (if (0 : Int) < (n : Int) then 1 else 0) := by split <;> omega
    have hc1 : ED (tLc (iRng1 (tCons (tOp rMulX (tVar 4) (tCB rIntX (tCons (tOp rGtI (tVar 6) (tC (.int 0))) tNil))) tNil)) (gName 14) tYes (tTup (tCons (tVar 6) (tCons (tVar 14) (tCons (tC (.str "-")) tNil)))) [14])
        [none, some (.int 5), some (.int 6), some (.int m), some (.int wide), some (.list ((leftOf wide n).map edgeD)), some (.int n), none, none, none, none, none, none, none, none]
        (.list (((List.range (wide * (if (0 : Int) < (n : Int) then 1 else 0)).toNat).map fun k => ((n : Int), ((k : Nat) : Int), Sg.h)).map edgeD)) := by
      have hb : ED (tOp rMulX (tVar 4) (tCB rIntX (tCons (tOp rGtI (tVar 6) (tC (.int 0))) tNil))) [none, some (.int 5), some (.int 6), some (.int m), some (.int wide), some (.list ((leftOf wide n).map edgeD)), some (.int n), none, none, none, none, none, none, none, none] (.int (wide * (if (0 : Int) < (n : Int) then 1 else 0))) := by
        refine ED.is (ed_op (ed_var rfl) (ed_cb (ea_cons (ed_op (ed_var rfl) ed_int r2_gt) ea_nil) rc_intB) (r2_mulI (i := wide) ?_)) ?_
        · exact .inl (by omega)
        · simp
      have h := ed_lcM (vs := [14]) (te := tTup (tCons (tVar 6) (tCons (tVar 14) (tCons (tC (.str "-")) tNil)))) (g := gName 14) (List.range (wide * (if (0 : Int) < (n : Int) then 1 else 0)).toNat) (fun k => PyData.int (k : Nat)) (fun k => edgeD ((n : Int), ((k : Nat) : Int), Sg.h)) (ie_rng1 (ea_cons hb ea_nil) (by omega) (by omega)) (by rw [List.length_range]; omega)
        (fun k _ => ⟨_, gd_name (by simp), ED.is (ed_tup (ea_cons (ed_var rfl) (ea_cons (ed_var rfl) (ea_cons ed_str ea_nil))) (by simp)) (by rw [lit_h]; rfl)⟩)
      rw [List.map_map]
      exact h
    have hc2 : ED (tLc (iRng2 (tCons (tC (.int 1)) (tCons (tVar 4) tNil))) (gName 14) tYes (tTup (tCons (tVar 6) (tCons (tVar 14) (tCons (tC (.str "|")) tNil)))) [14])
        [none, some (.int 5), some (.int 6), some (.int m), some (.int wide), some (.list ((leftOf wide n).map edgeD)), some (.int n), none, none, none, none, none, none, none, none]
        (.list (((List.range (wide - 1).toNat).map fun k => ((n : Int), 1 + ((k : Nat) : Int), Sg.v)).map edgeD)) := by
      have h := ed_lcM (vs := [14]) (te := tTup (tCons (tVar 6) (tCons (tVar 14) (tCons (tC (.str "|")) tNil)))) (g := gName 14) (List.range (wide - 1).toNat) (fun k => PyData.int (1 + (k : Nat))) (fun k => edgeD ((n : Int), 1 + ((k : Nat) : Int), Sg.v)) (ie_rng2 (ρ := [none, some (.int 5), some (.int 6), some (.int m), some (.int wide), some (.list ((leftOf wide n).map edgeD)), some (.int n), none, none, none, none, none, none, none, none]) (ta := tCons (tC (.int 1)) (tCons (tVar 4) tNil)) (m := 1) (n := wide) (ea_cons ed_int (ea_cons (ed_var rfl) ea_nil)) (by omega) (by omega) (by omega) (by omega)) (by rw [List.length_range]; omega)
        (fun k _ => ⟨_, gd_name (by simp), ED.is (ed_tup (ea_cons (ed_var rfl) (ea_cons (ed_var rfl) (ea_cons ed_str ea_nil))) (by simp)) (by rw [lit_v]; rfl)⟩)
      rw [List.map_map]
      exact h
    have hv5 : ED (tVar 5) [none, some (.int 5), some (.int 6), some (.int m), some (.int wide), some (.list ((leftOf wide n).map edgeD)), some (.int n), none, none, none, none, none, none, none, none] (.list ((leftOf wide n).map edgeD)) := ed_var rfl
    have hen := en_cat (K := K) (ed_op hv5 hc1 (r2_catL (K := K) (by simp only [List.length_map, List.length_range]; omega))) hc2 (by simp only [List.length_append, List.length_map, List.length_range]; omega)
    have e9 : (leftOf wide n).map edgeD ++ ((List.range (wide * (if (0 : Int) < (n : Int) then 1 else 0)).toNat).map fun k => ((n : Int), ((k : Nat) : Int), Sg.h)).map edgeD ++ ((List.range (wide - 1).toNat).map fun k => ((n : Int), 1 + ((k : Nat) : Int), Sg.v)).map edgeD = (leftOf wide (n + 1)).map edgeD := by
      simp only [leftOf, leftRow, List.map_append, List.append_assoc]
    rw [e9] at hen
    refine go_own o hen (hrn _ (by decide)) (by simp) (by simp) fun A σ B H o => ?_
    exact k A σ B H _ _ (.inr ⟨by omega, rfl, rfl⟩) (o.less ((Rle.refl [none, some (.int 5), some (.int 6), some (.int m), some (.int wide), none, none, none, none, none, none, none, none, none, none]).set (i := 6) (o := some (.int n)) rfl))
  rintro m hm0 rfl ρ os hP A σ B H o
  have o : Iv c A σ B H [none, some (.int 5), some (.int 6), some (.int m), some (.int wide), none, none, none, none, none, none, none, none, none, none] [(5, (leftOf wide m.toNat).map edgeD)] := by
    rcases hP with ⟨hz, _⟩ | ⟨_, rfl, rfl⟩
    · omega
    · exact o
  obtain ⟨hnd, hedge⟩ := look_left h1 h2
  have hll := len_left h2 m.toNat
  -- lists of its own
  refine go_seq ?_
  refine go_par3 o (hrn _ (by decide)) (hrn _ (by decide)) (hrn _ (by decide)) (by decide) (by decide) (by decide) (by simp) (by simp) (by simp) (by simp) (by simp) (by simp) fun A σ B H o => ?_
  have o : Iv c A σ B H [none, some (.int 5), some (.int 6), some (.int m), some (.int wide), none, none, none, none, none, none, none, none, none, none] [(5, (leftOf wide m.toNat).map edgeD), (7, ([] : List Edge).map edgeD), (8, [])] := o.perm (fun p hp => by simp at hp ⊢; rcases hp with h | h | h <;> simp [h])
  -- walls
  refine go_seq ?_
  refine go_rng (Pm := fun m => m ≤ 4) o (ei_135 hr) (hrn _ (by decide))
    (fun _ n ρ os => ρ = [none, some (.int 5), some (.int 6), some (.int m), some (.int wide), none, none, none, none, none, none, none, none, none, none] ∧ ∃ walls left : List Edge, os = [(5, left.map edgeD), (7, walls.map edgeD), (8, [])] ∧ WallsOk m wide walls left ∧ walls.length ≤ n) ?_ ?_ ?_ ?_
  · rintro k n ρ os ⟨rfl, walls, left, rfl, _⟩
    simp
  · intro _ _ _
    exact ⟨rfl, [], _, rfl, ⟨by simpa using hnd, by simpa using hedge, by omega⟩, by simp⟩
  · rintro k hk n hn ρ os ⟨rfl, walls, left, rfl, hw, hwl⟩ A σ B H N o next
    have less : Rle [none, some (.int 5), some (.int 6), some (.int m), some (.int wide), none, none, none, none, none, none, none, none, none, none] [none, some (.int 5), some (.int 6), some (.int m), some (.int wide), none, none, none, none, none, some (.int n), none, none, none, none] :=
      (Rle.refl [none, some (.int 5), some (.int 6), some (.int m), some (.int wide), none, none, none, none, none, none, none, none, none, none]).set (i := 10) (o := some (.int n)) rfl
    have o : Iv c A σ B H [none, some (.int 5), some (.int 6), some (.int m), some (.int wide), none, none, none, none, none, none, none, none, none, none] [(5, left.map edgeD), (7, walls.map edgeD), (8, [])] := o.less less
    refine go_if (P := (· = !left.isEmpty)) o ?_ (fun hb B H o => ?_) (fun hb B H o => ?_)
    · refine ti_view (j := 5) (ds := left.map edgeD) (ET.is (et_test (ed_op (d := .list (left.map edgeD)) (e := .list []) (ed_var rfl) (ed_lst ea_nil (by simp)) (r2_ne (sh_edgesL left) (sh_edgesL [])))) ?_) (by simp)
      rw [eqv_nil]
    · have hne : left ≠ [] := fun z => by rw [z] at hb; simp at hb
      have hlen : 1 ≤ left.length := by
        cases left with
        | nil => exact absurd rfl hne
        | cons => simp
      refine go_pop hr o (by decide) (by simp) (by simp) (by simp) (by rw [List.length_map]; exact hlen) (by rw [List.length_map]; have := hw.len; omega) (by rw [List.length_map]; omega) fun j z hz B H o => ?_
      rw [List.getElem?_map] at hz
      cases hz1 : left[j]? with
      | none => rw [hz1] at hz; simp at hz
      | some e =>
        rw [hz1] at hz
        simp at hz
        subst hz
        rw [map_erase] at o
        have e7 : walls.map edgeD ++ [edgeD e] = (walls ++ [e]).map edgeD := by simp
        rw [e7] at o
        exact next A σ B H _ _ ⟨rfl, walls ++ [e], left.eraseIdx j, rfl, hw.pop hz1, by rw [List.length_append, List.length_singleton]; omega⟩ o
    · exact next A σ B H _ _ ⟨rfl, walls, left, rfl, hw, by omega⟩ o
  rintro k hk0 hk4 ρ os ⟨rfl, walls, left, rfl, hw, hwl⟩ A σ B H o
  have hwl4 : walls.length ≤ 4 := by omega
  have o : Iv c A σ B H [none, some (.int 5), some (.int 6), some (.int m), some (.int wide), none, none, none, none, none, none, none, none, none, none] [(7, walls.map edgeD), (8, [])] := o.perm (fun p hp => by simp at hp ⊢; rcases hp with h | h <;> simp [h])
  obtain ⟨B, _, o⟩ := o.own_in (by simp)
  have o : Iv c A σ B H [none, some (.int 5), some (.int 6), some (.int m), some (.int wide), none, none, some (.list (walls.map edgeD)), none, none, none, none, none, none, none] [(8, [])] := o
  refine go_seq ?_
  have hst : EN (tLc (iList K (tVar 7)) (gName 13) tYes (tCallD (spR R_L_shut) (tCons (tVar 13) tNil)) [13]) [none, some (.int 5), some (.int 6), some (.int m), some (.int wide), none, none, some (.list (walls.map edgeD)), none, none, none, none, none, none, none] (walls.map fun e => pairD (shutP e)) :=
    en_lcM walls edgeD (fun e => pairD (shutP e)) (ie_list (ed_var rfl)) (by omega) fun e _ => ⟨_, gd_name (by simp), ed_call (ea_cons (ed_var rfl) ea_nil) (.mk e)⟩
  refine go_own o hst (hrn _ (by decide)) (by simp) (by simp) fun A σ B H o => ?_
  -- doors
  have hv : ∀ e ∈ walls, HV e := fun e he => isEdge_hv (hw.edge e (List.mem_append_left _ he))
  have hwe : ∀ e ∈ walls, isEdge ⟨m, wide, [], []⟩ e = true := fun e he => hw.edge e (List.mem_append_left _ he)
  have hwn : walls.Nodup := (List.nodup_append.mp hw.nd).1
  have e0 : (walls.map fun e => pairD (shutP e)) = ((walls ++ ([] : List Edge).map ef).map shutP).map pairD := by simp
  rw [e0] at o
  have o : Iv c A σ B H [none, some (.int 5), some (.int 6), some (.int m), some (.int wide), none, none, some (.list (walls.map edgeD)), none, none, none, none, none, none, none] [(8, ([] : List Edge).map edgeD), (9, ((walls ++ ([] : List Edge).map ef).map shutP).map pairD)] := o.perm (fun p hp => by simp at hp ⊢; rcases hp with h | h <;> simp [h])
  clear e0 hw hll hnd hedge hwl
  refine go_seq ?_
  refine go_rng (Pm := fun m => m ≤ 6) o ((ei_drawE (K := K) (m := 7) hr (ed_op (ed_var rfl) ed_int r2_addI) (by decide) (by decide)).imp ?_) (hrn _ (by decide))
    (fun _ n ρ os => ρ = [none, some (.int 5), some (.int 6), some (.int m), some (.int wide), none, none, some (.list (walls.map edgeD)), none, none, none, none, none, none, none] ∧ ∃ doors : List Edge, os = [(8, doors.map edgeD), (9, ((walls ++ doors.map ef).map shutP).map pairD)] ∧ doorsOk ⟨m, wide, walls, []⟩ doors ∧ doors.length ≤ n) ?_ ?_ ?_ ?_
  · rintro d ⟨n, rfl, hn⟩
    exact ⟨n, rfl, by omega, by omega, by omega⟩
  · rintro k n ρ os ⟨rfl, doors, rfl, _⟩
    simp
  · intro _ _ _
    exact ⟨rfl, [], rfl, ⟨by simp, by simp, by simp, by simp⟩, by simp⟩
  · rintro k hk n hn ρ os ⟨rfl, doors, rfl, hd, hdl⟩ A σ B H N o next
    have o : Iv c A σ B H [none, some (.int 5), some (.int 6), some (.int m), some (.int wide), none, none, some (.list (walls.map edgeD)), none, none, some (.int n), none, none, none, none] [(8, doors.map edgeD), (9, ((walls ++ doors.map ef).map shutP).map pairD)] := o
    refine go_seq ?_
    refine go_asg (P := fun d => ∃ e : Edge, d = edgeD e ∧ Way e.2.2) o ((ei_tup (ai_cons (ei_drawE (K := K) hr (m := m + 1) (ed_op (ed_var rfl) ed_int r2_addI) (by omega) (by omega)) fun _ _ => ai_cons (ei_drawE (K := K) hr (m := wide + 1) (ed_op (ed_var rfl) ed_int r2_addI) (by omega) (by omega)) fun _ _ => ai_cons (ei_ensw (K := K) hr) fun _ _ => ai_nil) ?_).imp ?_) (hrn _ (by decide)) (by simp) ?_
    · rintro ds ⟨d, es, rfl, _, e, es2, rfl, _, f, es3, rfl, _, rfl⟩
      simp
    · rintro d ⟨ds, rfl, d1, es, rfl, ⟨a, rfl, ha⟩, d2, es2, rfl, ⟨b, rfl, hb⟩, d3, es3, rfl, ⟨w, rfl, hw⟩, rfl⟩
      exact ⟨((a : Int), (b : Int), w), rfl, hw⟩
    rintro d ⟨e, rfl, he⟩ σ B H o
    have o : Iv c A σ B H [none, some (.int 5), some (.int 6), some (.int m), some (.int wide), none, none, some (.list (walls.map edgeD)), none, none, some (.int n), some (edgeD e), none, none, none] [(8, doors.map edgeD), (9, ((walls ++ doors.map ef).map shutP).map pairD)] := o
    refine go_seq ?_
    refine go_asg (P := (· = pairD (shutP (ef e)))) o (ei_pure (ed_call (ds := [cellD (e.1, e.2.1), sg e.2.2]) (ea_cons (ED.is (ed_slT (ed_var (d := edgeD e) rfl) eo_none (eo_some ed_int)) rfl) (ea_cons (ed_op (ed_var (d := edgeD e) rfl) ed_int (r2_ixT rfl)) ea_nil)) (.mk (e.1, e.2.1) e.2.2 he))) (hrn _ (by decide)) (by simp) ?_
    rintro d rfl σ B H o
    have o : Iv c A σ B H [none, some (.int 5), some (.int 6), some (.int m), some (.int wide), none, none, some (.list (walls.map edgeD)), none, none, some (.int n), some (edgeD e), some (pairD (shutP (ef e))), none, none] [(8, doors.map edgeD), (9, ((walls ++ doors.map ef).map shutP).map pairD)] := o
    have less : Rle [none, some (.int 5), some (.int 6), some (.int m), some (.int wide), none, none, some (.list (walls.map edgeD)), none, none, none, none, none, none, none] [none, some (.int 5), some (.int 6), some (.int m), some (.int wide), none, none, some (.list (walls.map edgeD)), none, none, some (.int n), some (edgeD e), some (pairD (shutP (ef e))), none, none] :=
      (((Rle.refl [none, some (.int 5), some (.int 6), some (.int m), some (.int wide), none, none, some (.list (walls.map edgeD)), none, none, none, none, none, none, none]).set (i := 10) (o := some (.int n)) rfl).set (i := 11) (o := some (edgeD e)) rfl).set (i := 12) (o := some (pairD (shutP (ef e)))) rfl
    have hve : HV (ef e) := hv_from _ _ _
    have hvs : ∀ x ∈ walls ++ doors.map ef, HV x := fun x hx => by
      rcases List.mem_append.mp hx with hx | hx
      · exact hv x hx
      · obtain ⟨y, _, rfl⟩ := List.mem_map.mp hx
        exact hv_from _ _ _
    dsimp only
    refine go_if (P := fun b => b = true → isEdge ⟨m, wide, walls, []⟩ (ef e) = true ∧ ef e ∉ walls ++ doors.map ef) o ?_ (fun hb B H o => ?_) (fun hb B H o => ?_)
    · refine ti_and (a := inRC m wide (shutP (ef e)).1 && inRC m wide (shutP (ef e)).2) (ti_pure (et_B (ed_call (ea_cons (ed_tup (ea_cons (ed_var rfl) (ea_cons (ed_var rfl) ea_nil)) (by simp)) (ea_cons (ed_var rfl) ea_nil)) (.mk m wide [] (shutP (ef e)))))) (fun ha => ?_) (fun _ z => nomatch z)
      rw [within_edge ⟨m, wide, walls, []⟩ (ef e) hve] at ha
      have e1 : ED (tOp (rInX K true) (tVar 12) (tVar 9)) [none, some (.int 5), some (.int 6), some (.int m), some (.int wide), none, none, some (.list (walls.map edgeD)), none, some (.list (((walls ++ doors.map ef).map shutP).map pairD)), some (.int n), some (edgeD e), some (pairD (shutP (ef e))), none, none] (.bool (!((((walls ++ doors.map ef).map shutP).map pairD).any fun z => PyData.eqv z (pairD (shutP (ef e)))))) :=
        ed_op (ed_var rfl) (ed_var rfl) (r2_inL (neg := true) (sh_pair _) (sh_pairsL _))
      have h9 : TI' c (tTest (tOp (rInX K true) (tVar 12) (tVar 9))) [none, some (.int 5), some (.int 6), some (.int m), some (.int wide), none, none, some (.list (walls.map edgeD)), none, none, some (.int n), some (edgeD e), some (pairD (shutP (ef e))), none, none] [(8, doors.map edgeD), (9, ((walls ++ doors.map ef).map shutP).map pairD)] (· = !((((walls ++ doors.map ef).map shutP).map pairD).any fun z => PyData.eqv z (pairD (shutP (ef e))))) :=
        ti_view (j := 9) (ds := ((walls ++ doors.map ef).map shutP).map pairD) (et_test e1) (by simp)
      intro A σ B H o Q q
      refine h9 A σ B H o Q fun b B' H' o' hb => q b B' H' o' fun hbt => ⟨ha, fun hm => ?_⟩
      rw [hbt] at hb
      rw [any_pair] at hb
      have := (mem_shut hvs hve).mpr hm
      rw [decide_eq_true this] at hb
      exact nomatch hb
    · obtain ⟨hed, hnm⟩ := hb rfl
      refine go_seq ?_
      refine go_app o (by simp) (ei_pure (ed_var (d := edgeD e) rfl)) (by rw [List.length_map]; omega) fun d hd' B H o => ?_
      subst hd'
      have o : Iv c A σ B H [none, some (.int 5), some (.int 6), some (.int m), some (.int wide), none, none, some (.list (walls.map edgeD)), none, none, some (.int n), some (edgeD e), some (pairD (shutP (ef e))), none, none] [(9, ((walls ++ doors.map ef).map shutP).map pairD), (8, doors.map edgeD ++ [edgeD e])] := o.perm (fun p hp => by simp at hp ⊢; rcases hp with h | h <;> simp [h])
      refine go_app o (by simp) (ei_pure (ed_var (d := pairD (shutP (ef e))) rfl)) (by simp only [List.length_map, List.length_append]; omega) fun d hd' B H o => ?_
      subst hd'
      have e8 : doors.map edgeD ++ [edgeD e] = (doors ++ [e]).map edgeD := by simp
      have e9 : ((walls ++ doors.map ef).map shutP).map pairD ++ [pairD (shutP (ef e))] = ((walls ++ (doors ++ [e]).map ef).map shutP).map pairD := by simp
      rw [e8, e9] at o
      have o : Iv c A σ B H [none, some (.int 5), some (.int 6), some (.int m), some (.int wide), none, none, some (.list (walls.map edgeD)), none, none, some (.int n), some (edgeD e), some (pairD (shutP (ef e))), none, none] [(8, (doors ++ [e]).map edgeD), (9, ((walls ++ (doors ++ [e]).map ef).map shutP).map pairD)] := o.perm (fun p hp => by simp only [List.mem_cons, List.not_mem_nil, or_false] at hp ⊢; rcases hp with h | h <;> simp [h])
      refine next A σ B H _ _ ⟨rfl, doors ++ [e], rfl, ⟨fun x hx => ?_, fun x hx => ?_, fun x hx => ?_, ?_⟩, by rw [List.length_append, List.length_singleton]; omega⟩ (o.less less)
      · rcases List.mem_append.mp hx with hx | hx
        · exact hd.1 x hx
        · rw [List.mem_singleton.mp hx]
          exact he
      · rcases List.mem_append.mp hx with hx | hx
        · exact hd.2.1 x hx
        · rw [List.mem_singleton.mp hx]
          exact hed
      · rcases List.mem_append.mp hx with hx | hx
        · exact hd.2.2.1 x hx
        · rw [List.mem_singleton.mp hx]
          exact fun z => hnm (List.mem_append_left _ z)
      · rw [List.map_append, List.nodup_append]
        refine ⟨hd.2.2.2, List.nodup_cons.mpr ⟨by simp, List.nodup_nil⟩, fun a ha b hb e => hnm (List.mem_append_right _ ?_)⟩
        subst e
        have : a = ef _ := List.mem_singleton.mp hb
        rw [← this]
        exact ha
    · exact next A σ B H _ _ ⟨rfl, doors, rfl, hd, by omega⟩ (o.less less)
  rintro k hk0 hk6 ρ os ⟨rfl, doors, rfl, hd, hdl⟩ A σ B H o
  obtain ⟨B, _, o⟩ := o.own_in (by simp)
  refine go_ret o (ei_pure (ed_tup (ea_cons (ed_var rfl) (ea_cons (ed_var rfl) (ea_cons (ed_cb (ea_cons (ed_var rfl) ea_nil) rc_tupL) (ea_cons (ed_cb (ea_cons (ed_var rfl) ea_nil) rc_tupL) ea_nil)))) (by simp))) fun v d B' H' o' dv e => ?_
  subst e
  refine q A σ v (hallD ⟨m, wide, walls, doors⟩) B' H' _ _ ⟨⟨m, wide, walls, doors⟩, ⟨h1, h2, by show walls.length ≤ 24; omega, by show doors.length ≤ 6; omega, fun e he => ?_, hwn, hd.1, fun e he => ?_, hd.2.2.1, hd.2.2.2⟩, rfl⟩ o' dv
  · exact (isEdge_rc rfl rfl e).trans (hwe e he)
  · exact (isEdge_rc rfl rfl _).trans (hd.2.1 e he)
end
end Pd
/-! Rdg2 -/
namespace Pd
variable [Pd.Wd]
end Pd
/-! Sem12 -/
set_option Elab.async false
set_option linter.all false
set_option maxRecDepth 100000
set_option maxHeartbeats 4000000
namespace Pd
variable [Pd.Wd]
open PySem PySem.Spec PyProof.Rows L2 PySem.W
local macro_rules | `(tactic| walk_at "ed") => `(tactic| repeat' (first
  | with_reducible (first
    | exact ed_int | exact ed_str | exact ed_bl | exact ed_non
    | exact ea_nil | refine' ea_cons ?_ ?_
    | refine' ed_isi ?_ ?_ | refine' ed_isi2 ?_ ?_ ?_
    | refine' ed_andV ?_ (fun _ => ?_) | refine' ed_orV ?_ (fun _ => ?_) | refine' ed_notV ?_
    | refine' ed_chain ?_ ?_ ?_ (fun _ => ⟨?_, ?_⟩)
    | refine' ed_tup ?_ ?_ | refine' ed_lst ?_ ?_
    | refine' et_not ?_ | refine' et_and ?_ (fun _ => ?_) | refine' et_or ?_ (fun _ => ?_) | exact et_yes
    | refine' et_test ?_ | refine' et_B ?_
    | refine' ed_op ?_ ?_ ?_
    | refine' ed_cb ?_ ?_)
  | exact ed_var rfl
  | exact kit_tt | exact kit_ii | exact kit_ib | exact kit_ll | exact kit_lt | exact kit_tl
  | exact r2_addI | exact r2_subI | exact r2_lt | exact r2_le | exact r2_gt | exact r2_ge | exact r2_isN | exact r2_notN
  | exact rc_lenT | exact rc_lenL | exact rc_intB | exact rc_tupL
  | with_reducible (first | refine' r2_eq ?_ ?_ | refine' r2_ne ?_ ?_)
  | exact sh_int _ | exact sh_sg _ | exact sh_cell _ | exact sh_edge _ | exact sh_pair _ | exact sh_str _ (by decide +kernel)
  | exact r2_ixT rfl | exact r2_ixL rfl
  | refine' ed_tup ?_ ?_
  | (show List.length _ ≤ 100000; simp; done)))
/-! ### alike -/
theorem sh_bool (b : Bool) : SeqAt.shaped (.bool b) = true := shaped_of (by simp [PyData.canLay0]) (by simp [PyData.depth])
theorem sh_non : SeqAt.shaped .none = true := shaped_of (by simp [PyData.canLay0]) (by simp [PyData.depth])
theorem eqv_bool (a b : Bool) : PyData.eqv (.bool a) (.bool b) = decide (a = b) := by
  cases a <;> cases b <;> simp [PyData.eqv]
theorem eqv_nilL : PyData.eqv (.list []) (.list []) = true := by simp [PyData.eqv, PyData.eqvAll]
section
variable {K : PySem.W.Frag}
end
end Pd
/-! RdX -/
set_option Elab.async false
set_option linter.all false
set_option maxRecDepth 100000
set_option maxHeartbeats 4000000
namespace Pd
open PySem PySem.Spec PyProof.Rows L2
end Pd
/-! ZipL -/
set_option Elab.async false
set_option linter.all false
set_option maxRecDepth 100000
set_option maxHeartbeats 4000000
/-! list(zip(xs, ys)), xs and ys lists -/
namespace PySem
variable [Pd.Wd]
namespace F
variable [Pd.Wd]
end F
end PySem
namespace Pd
variable [Pd.Wd]
open PySem PySem.Spec PyProof.Rows L2
/-- a zip over two lists, behind i turns, while at d a list is filled -/
structure ZS (z TI TO i1 i2 l1 l2 : Addr) (xs ys : Array Value) (d : Addr) (i : Nat) (h : Heap) : Prop where
  pTI : IsPair h TI (.ref i1) (.ref i2)
  a1 : h.IsListIter i1 l1 i
  a2 : h.IsListIter i2 l2 i
  b1 : h.IsList l1 xs
  b2 : h.IsList l2 ys
  zz : (IsZip h z TI TO .none ∧ ∃ a b, IsPair h TO a b) ∨ ∃ T f oT, IsZipHeld h z TI TO T f ∧ h.get? T = some oT ∧ T ≠ z ∧ T ≠ i1 ∧ T ≠ i2 ∧ T ≠ d
section
variable {prog : Program} {w : World} {A : Around} {E : Value → Shared → Prop} {s : Shared} {z TI TO i1 i2 l1 l2 d : Addr} {xs ys : Array Value} {i : Nat} {x y : Value}
theorem ZS.frame {h h' : Heap} (st : ZS z TI TO i1 i2 l1 l2 xs ys d i h) (nd : d ∉ [z, TI, TO, i1, i2, l1, l2]) (hk : ∀ b o, b ≠ d → h.get? b = some o → h'.get? b = some o) : ZS z TI TO i1 i2 l1 l2 xs ys d i h' := by
  simp only [List.mem_cons, List.not_mem_nil, or_false, not_or] at nd
  obtain ⟨dz, dTI, dTO, di1, di2, dl1, dl2⟩ := nd
  obtain ⟨hTI, h1, h2, hl1, hl2, hz⟩ := st
  refine ⟨hk _ _ (Ne.symm dTI) hTI, h1.at fun o e => hk _ o (Ne.symm di1) e, h2.at fun o e => hk _ o (Ne.symm di2) e, hl1.at fun o e => hk _ o (Ne.symm dl1) e, hl2.at fun o e => hk _ o (Ne.symm dl2) e, ?_⟩
  rcases hz with ⟨hz, a, b, hTO⟩ | ⟨T, f, oT, hz, hT, r1, r2, r3, r4⟩
  · exact .inl ⟨hk _ _ (Ne.symm dz) hz, a, b, hk _ _ (Ne.symm dTO) hTO⟩
  · exact .inr ⟨T, f, oT, hk _ _ (Ne.symm dz) hz, hk _ _ r4 hT, r1, r2, r3, r4⟩
end
/-- the tuples that are laid in turn, and the list at S of them -/
inductive Zl (xv yv : List V) (S : Addr) (H1 : Hp) : Nat → List Addr → Hp → Prop
  | nil : Zl xv yv S H1 0 [] (upd H1 S (.lst []))
  | snoc {i : Nat} {ts : List Addr} {H : Hp} {x y : V} {T : Addr} : Zl xv yv S H1 i ts H → xv[i]? = some x → yv[i]? = some y → H T = none → Zl xv yv S H1 (i + 1) (ts ++ [T]) (upd (upd H T (.tup [x, y])) S (.lst ((ts ++ [T]).map V.ref)))
theorem Zl.at {xv yv : List V} {S : Addr} {H1 H : Hp} {i : Nat} {ts : List Addr} (h : Zl xv yv S H1 i ts H) : H S = some (.lst (ts.map V.ref)) := by
  cases h with
  | nil => exact upd_same
  | snoc => exact upd_same
theorem Zl.len {xv yv : List V} {S : Addr} {H1 H : Hp} {i : Nat} {ts : List Addr} (h : Zl xv yv S H1 i ts H) : ts.length = i := by
  induction h with
  | nil => rfl
  | snoc _ _ _ _ ih => rw [List.length_append, ih]; rfl
section
variable {X : Cx} {pins : List (Addr × Obj)} {σ : L2.St}
end
end Pd
/-! ClsB -/
set_option Elab.async false
set_option linter.all false
set_option maxRecDepth 100000
set_option maxHeartbeats 4000000
/-! methods that keep a promise -/
namespace Pd
variable [Pd.Wd]
open PySem PySem.Spec PyProof.Rows L2
/-- list(x), x a list or a tuple -/
def rListX (K : PySem.W.Frag) : List V → Hp → VK → Prop := fun xs H Q => ∃ p ys, xs = [.ref p] ∧ (SqL K H p ys ∨ SqT K H p ys) ∧ ∀ l, H l = none → Q (.ref l) (upd H l (.lst ys))
/-- a method of the class at C -/
def MethS (P : Program) (w : World) (K : PySem.W.Frag) (mg : Str → Option Value) (base : Heap) (CX : CXT) (k : Nat) (C : Addr) (m : Str) (ps : List Str) (dvs : List V) (sp : Sp) : Prop :=
  ∃ f fd ds, Meth K C m f ∧ Binds K fd ps ds ∧ Vals dvs ds ∧ FnOk P w K mg base CX k f fd ps sp
def MakeS (P : Program) (w : World) (K : PySem.W.Frag) (mg : Str → Option Value) (base : Heap) (CX : CXT) (k : Nat) (C : Addr) (ps : List Str) (sp : Sp) : Prop :=
  ∃ f fd, Mk K C f ∧ Binds K fd ps [] ∧ FnOk P w K mg base CX k f fd ps sp
theorem MethS.mono {P : Program} {w : World} {K : PySem.W.Frag} {mg : Str → Option Value} {base : Heap} {CX : CXT} {k j : Nat} {C : Addr} {m : Str} {ps : List Str} {dvs : List V} {sp : Sp} (h : MethS P w K mg base CX k C m ps dvs sp) (hj : k ≤ j) : MethS P w K mg base CX j C m ps dvs sp :=
  let ⟨f, fd, ds, a, b, c, d⟩ := h
  ⟨f, fd, ds, a, b, c, d.mono hj⟩
section
variable {X : Cx} {k : Nat} {C : Addr} {m x : Str} {ps : List Str} {dvs : List V} {sp : Sp} {o e : Expr} {es : List Expr} {ta : TE} {t : TA} {pos apos p : Pos}
end
end Pd
/-! SupI -/
set_option Elab.async false
set_option linter.all false
set_option maxRecDepth 100000
set_option maxHeartbeats 4000000
/-! an own exception's __init__ that says super().__init__(x), its built-in base below another own class -/
namespace Pd
variable [Pd.Wd]
open PySem PySem.Spec PyProof.Rows L2 PySem.Calls LamX NdefX

/-- what the written part says of such an __init__ -/
structure SupF (P : Program) (K : PySem.W.Frag) (C fI cc cda : Addr) (x qual : Str) (params : Arguments) (body : List Stmt) (scope : Scope) (fd : FuncData) : Prop where
  T : OexC K C
  fn : ∃ (oc : Value) (od : Option Addr) (osl : Array (Option Value)) (dV kV doc pm ct : Value) (an : Option Addr), fd = PySem.W.fnX x qual params body scope [("__class__", cc)] dV kV doc pm an (.ref cda) ct ∧ K.lookup fI = some ⟨oc, od, .func fd, osl⟩
  cd : PySem.W.codeIn K (.ref cda) qual = true
  code : ∃ (ccl : Value) (cdd : Option Addr) (ccs : Array (Option Value)) (vs : Array Value) (file : Str) (tf : Tok), K.lookup cda = some ⟨ccl, cdd, .fields vs, ccs⟩ ∧ vs[2]? = some (.str file tf) ∧ ((P.main.file : Str) == file) = true
  cell : ∃ (cl : Value) (cld : Option Addr) (csl : Array (Option Value)), K.lookup cc = some ⟨cl, cld, .cell (some (.ref C)), csl⟩
  cls : ∃ cdD, PySem.W.clsIn K C = some cdD
  top : (P.main.scope.names.lookup ("super" : Str)).isSome = false
  sub : PySem.W.mroIn K C (.ref C) = some true
  sup : PySem.W.ks_superIn K C C "__init__" = some (some (.builtin "ValueError.__init__"))
  opq : PySem.W.nsIn K cStatics "thirdparty.any" = some none
  ve : PySem.W.subIn K (.ref C) (.type "ValueError") = some true
  ks : scope.names.lookup ("super" : Str) = some .globalImplicit
  self : scope.names.lookup ("self" : Str) = some .local
  hd : ∃ ar : Arg, (params.posonlyargs ++ params.args).head? = some ar ∧ ar.arg = "self"

theorem one_look {k y : Str} {c c' : Addr} (q : List.lookup y [(k, c)] = some c') : y = k ∧ c' = c := by
  simp only [List.lookup] at q
  split at q
  · rename_i hb
    exact ⟨beq_iff_eq.mp hb, (Option.some.inj q).symm⟩
  · cases q
theorem fn_sup {P : Program} {w : World} {K : PySem.W.Frag} {mg : Str → Option Value} {base : Heap} {k : Nat} {C fI cc cda : Addr} {x qual : Str} {params : Arguments} {rest : List Stmt} {scope : Scope} {fd : FuncData} {N ps : List Str} {sp : Sp} {e : Expr} {p0 p1 p2 p3 p4 : Pos}
    (U : SupF P K C fI cc cda x qual params (.Expr (.Call (.Attribute (.Call (.Name "super" p0) [] [] p1) "__init__" p2) [e] [] p3) p4 :: rest) scope fd) (S : NScope N ps ["__class__"] scope) (hps : ps[0]? = some ("self" : Str)) (hms : mg "super" = none)
    (pl : Addr → Sem Bool)
    (hev : ∀ L : Addr, eval (.Call (.Attribute (.Call (.Name "super" p0) [] [] p1) "__init__" p2) [e] [] p3) (envF ⟨x, qual, params, .Expr (.Call (.Attribute (.Call (.Name "super" p0) [] [] p1) "__init__" p2) [e] [] p3) p4 :: rest, scope, [("__class__", cc)], cda⟩ fI L) = (do
      let ov ← attributeBase (.Call (.Name "super" p0) [] [] p1) "__init__" (envF ⟨x, qual, params, .Expr (.Call (.Attribute (.Call (.Name "super" p0) [] [] p1) "__init__" p2) [e] [] p3) p4 :: rest, scope, [("__class__", cc)], cda⟩ fI L) (eval (.Call (.Name "super" p0) [] [] p1) (envF ⟨x, qual, params, .Expr (.Call (.Attribute (.Call (.Name "super" p0) [] [] p1) "__init__" p2) [e] [] p3) p4 :: rest, scope, [("__class__", cc)], cda⟩ fI L))
      standAt p2.atName
      let (f, first) ← holding [ov] (getMethod ov "__init__" (pl L))
      callWith p3 f first (backTo p3 (starEach [e] (envF ⟨x, qual, params, .Expr (.Call (.Attribute (.Call (.Name "super" p0) [] [] p1) "__init__" p2) [e] [] p3) p4 :: rest, scope, [("__class__", cc)], cda⟩ fI L))) []))
    (hst : ∀ L : Addr, starEach [e] (envF ⟨x, qual, params, .Expr (.Call (.Attribute (.Call (.Name "super" p0) [] [] p1) "__init__" p2) [e] [] p3) p4 :: rest, scope, [("__class__", cc)], cda⟩ fI L) = [(false, eval e (envF ⟨x, qual, params, .Expr (.Call (.Attribute (.Call (.Name "super" p0) [] [] p1) "__init__" p2) [e] [] p3) p4 :: rest, scope, [("__class__", cc)], cda⟩ fI L))])
    (len : ∀ vs H Q E, sp vs H Q E → vs.length = ps.length)
    (hbody : ∀ (A : Around) (outer : List Env) (s : Shared) (H : Hp) (vs : List V) (Q : VK) (E : XK), Room k (A.deeper (envF ⟨x, qual, params, .Expr (.Call (.Attribute (.Call (.Name "super" p0) [] [] p1) "__init__" p2) [e] [] p3) p4 :: rest, scope, [("__class__", cc)], cda⟩ fI s.heap.objs.size)) → sp vs H Q E →
      ∃ (a : Addr) (ws : List V) (te : TE) (t : TS), vs = .ref a :: ws ∧ H a = some (exo a C none) ∧
        PE (ncx CX0 P w K mg base N ⟨x, qual, params, .Expr (.Call (.Attribute (.Call (.Name "super" p0) [] [] p1) "__init__" p2) [e] [] p3) p4 :: rest, scope, [("__class__", cc)], cda⟩ fI A outer s H E) e te ∧
        PSs (ncx CX0 P w K mg base N ⟨x, qual, params, .Expr (.Call (.Attribute (.Call (.Name "super" p0) [] [] p1) "__init__" p2) [e] [] p3) p4 :: rest, scope, [("__class__", cc)], cda⟩ fI A outer s H E) rest t ∧
        te (startF N vs [some (.ref C)]) H (fun v H1 => [v].length ≤ sizeLine ∧ H1 a = some (exo a C none) ∧ t { nx := fun _ H' => Q .non H', rt := Q } (startF N vs [some (.ref C)]) H1)) : FnOk P w K mg base CX0 (k + 1) fI fd ps sp := by
  obtain ⟨T, ⟨oc, od, osl, dV, kV, doc, pm, ct, an, rfl, hf⟩, hcd, ⟨ccl, cdd, ccs, cvs, file, tf, hcode, hvs, hfile⟩, ⟨cl, cld, csl, hcell⟩, ⟨cdD, hD⟩, htop, hsub, hsup, hopq, hve, hks, hself, ⟨ar, hp, har⟩⟩ := U
  refine ⟨len, fun A outer s H args us vs Q E hr e0 hb r hsp => ?_⟩
  have hl := len _ _ _ _ hsp
  have hin : K.In s.heap := e0.mod.kin.keeps fun b o q => (e0.bs b o q).1
  have lim : s.heap.NoLimit := e0.mod.nolimit.keeps fun b o q => (e0.bs b o q).1
  have hkc : scope.names.lookup ("__class__" : Str) = some .free := S.frk _ (by simp)
  let body : List Stmt := .Expr (.Call (.Attribute (.Call (.Name "super" p0) [] [] p1) "__init__" p2) [e] [] p3) p4 :: rest
  let F : NF := ⟨x, qual, params, body, scope, [("__class__", cc)], cda⟩
  have CA : CellsAt F.cl ["__class__"] [some (.ref C)] s.heap H := by
    have hc0 : H cc = none := (e0.bs cc _ (e0.mod.kin _ _ hcell)).2
    have hcc : s.heap.IsCell cc (some (.ref C)) := ⟨_, hin _ _ hcell, rfl⟩
    refine ⟨rfl, fun y c q => ?_, fun y z c q1 q2 => ?_, fun i y q => ?_⟩
    · obtain ⟨_, rfl⟩ := one_look q
      exact ⟨hc0, _, hcc⟩
    · rw [(one_look q1).1, (one_look q2).1]
    · cases i with
      | zero =>
        have : y = "__class__" := by simpa using q.symm
        subst this
        refine ⟨cc, by simp [F, List.lookup], fun v hv => ?_⟩
        have : v = .ref C := by simpa using hv.symm
        subst this
        exact ⟨.ref C, rfl, hcc⟩
      | succ i => simp at q
  refine ks_codeAny_call_defAt (body := body) (binds := ps.zip us) hr.depth (hin _ _ hf) rfl lim (PySem.W.codeRec_of hin hcd) rfl hb S.nocell (fun ⟨n, _⟩ hy => S.par n (List.of_mem_zip hy).1) (fun h₁ hns kp => ?_) S.co S.gen S.kind
  obtain ⟨a, ws, te, t, rfl, ha, he, ht, hq⟩ := hbody A outer s H _ Q E (hr.deeper _) hsp
  have I : L2.Inv (ncx CX0 P w K mg base N F fI A outer s H E) [] (startF N (.ref a :: ws) [some (.ref C)]) H { s with heap := h₁, toks := s.toks + (ps.zip us).length } := inv_startN S hr.hd e0 hl r CA hns kp
  have fin : ∀ {σ' : L2.St} {H' : Hp} {s' : Shared} {v : V} {u : Value}, L2.Inv (ncx CX0 P w K mg base N F fI A outer s H E) [] σ' H' s' → L2.RelV v u → Q v H' → CE outer P w H s Q u s' :=
    fun {σ' H' s' v u} J rv q => ⟨v, H', J.os, J.bare, J.base, J.hok, rv, q⟩
  show _root_.PySem.wpAt (model P w) (A.deeper (envF F fI s.heap.objs.size)) (.func body (envF F fI s.heap.objs.size)) (execs body (envF F fI s.heap.objs.size)) _ _ _
  refine ks_wpAt_mono (Q := fun fl s' => SP (ncx CX0 P w K mg base N F fI A outer s H E) [] { nx := fun _ H' => Q .non H', rt := Q } fl s') (E := (ncx CX0 P w K mg base N F fI A outer s H E).xe) ?main (fun fl s' hs => ?fin) (fun e s' hs => hs)
  case fin =>
    cases fl with
    | ret u =>
      obtain ⟨v, σ', H', J, rv, q⟩ := hs
      exact fin J rv q
    | next =>
      obtain ⟨σ', H', J, q⟩ := hs
      exact fin (v := V.non) (u := Value.none) J rfl q
    | brk =>
      obtain ⟨_, _, _, q⟩ := hs
      exact False.elim q
    | cont =>
      obtain ⟨_, _, _, q⟩ := hs
      exact False.elim q
  refine ks_wpAt_execs_cons (ks_wpAt_Expr_any (ks_wpAt_MethodCall (pl := pl s.heap.objs.size) ?_ (hev _)) I.quiet)
  -- super()
  have X₁ : K.In h₁ := I.kIn
  obtain ⟨oD, hD1, hD2⟩ : ∃ oD, h₁.get? C = some oD ∧ oD.data = .cls cdD := by
    unfold PySem.W.clsIn at hD
    split at hD
    · rename_i c d cd' sl ho
      cases hD
      exact ⟨_, X₁ _ _ ho, rfl⟩
    · cases hD
  obtain ⟨t1, hex⟩ := exo_at I.hok ha
  have hex : h₁.get? a = some (PySem.HandSPX.excO C t1) := hex
  refine ks_wpAt_super_base (env := envF F fI s.heap.objs.size) hks hkc (by decide) rfl (X₁ _ _ hf) rfl hp rfl (X₁ _ _ hcode) rfl hvs hfile htop ?_
  -- the built-in super
  have hn : ("super" : Str) ≠ "__name__" := by decide
  obtain ⟨mb, hb1, hb2⟩ := I.mod.blt
  refine PySem.W.ks_loadName_global S.kind hks (Calls.loadGlobal_builtin (env := envF F fI s.heap.objs.size) (by rw [show (envF F fI s.heap.objs.size).globals = _ from I.ok.glob]; exact I.mod.glob.keeps I.bk) hms (by rw [show (envF F fI s.heap.objs.size).builtins = _ from I.ok.blt]; exact hb1.keeps I.bk) ((hb2 _ hn).trans (by decide +kernel : bootBuiltins "super" = some (.type "super"))) ⟨rfl, ?_⟩)
  have hcc₁ : h₁.IsCell cc (some (.ref C)) := ⟨_, X₁ _ _ hcell, rfl⟩
  refine wpAny_loadName_free S.kind hkc rfl hcc₁ ?_
  have ndP : ps.Nodup := by
    have q : (N.take (ps.length + [("__class__" : Str)].length)).Nodup := S.nd.sublist (List.take_sublist _ _)
    rw [S.pre] at q
    exact (List.nodup_append.mp q).1
  have hself2 : (ps.zip us).reverse.lookup ("self" : Str) = some (.ref a) := by
    cases r with
    | cons ra rr =>
      have ra' : _ = Value.ref a := ra
      subst ra'
      exact zip_look ndP hps (by simp)
  rw [har]
  refine wpAny_loadName_local S.kind hself hns hself2 ?_
  refine ks_wpAny_isType_cls hD1 hD2 ⟨rfl, ?_⟩
  refine ks_wpAny_call_super hD1 hD2 hex rfl (fun c z => nomatch z) (PySem.W.looks_mroIn X₁ hsub) (fun h₂ eso k2 => ?_)
  -- its method
  have J1 := I.kept (t' := s.toks + (ps.zip us).length) k2
  have X₂ : K.In h₂ := J1.kIn
  have hex2 : h₂.get? a = some (PySem.HandSPX.excO C t1) := k2 _ _ hex
  have inst : PySem.W.InstAt h₂ a (PySem.HandSPX.excO C t1) C none := ⟨hex2, rfl, rfl, trivial⟩
  have hI : PySem.W.Looks (model P w) h₂ (isInstance (.ref a) (.type "ValueError")) true := inst.type.andThen (PySem.W.looks_subIn X₂ hve)
  have hsup' : PySem.W.alongIn K "__init__" ((cdD.mro.dropWhile (· != .ref C)).drop 1) = some (some (.builtin "ValueError.__init__")) := by
    unfold PySem.W.ks_superIn at hsup
    rw [hD] at hsup
    exact hsup
  refine PySem.W.kxs_getMethod PySem.W.kxs_ValueError eso (PySem.W.looks_opaque X₂ hopq) (l₀ := cdD.mro) (fun A Q E s k q => wpAny_bind ((PySem.W.looks_clsIn X₂ hD) A _ E s k (wpAny_pure q))) rfl X₂ hsup' hI (PySem.W.ks_ne X₂ inst hD) (by decide) ?_
  -- its arguments
  have k3 : ∀ b o, h₂.get? b = some o → (h₂.push (PySem.W.kxs_mw "ValueError.__init__" a)).get? b = some o := fun b o q => Heap.get?_push_of_some _ q
  have J2 := J1.kept (t' := s.toks + (ps.zip us).length + 1) k3
  have hu3 : (h₂.push (PySem.W.kxs_mw "ValueError.__init__" a)).get? h₂.objs.size = some (PySem.W.kxs_mw "ValueError.__init__" a) := Heap.get?_push_at rfl rfl
  have J3 : L2.Inv (ncx CX0 P w K mg base N F fI A outer s H E) [(h₂.objs.size, PySem.W.kxs_mw "ValueError.__init__" a)] (startF N (.ref a :: ws) [some (.ref C)]) H { s with heap := h₂.push (PySem.W.kxs_mw "ValueError.__init__" a), toks := s.toks + (ps.zip us).length + 1 } :=
    J2.pins_of fun p hp => by
      rw [List.mem_singleton.mp hp]
      exact ⟨hu3, J1.hok.fresh (Nat.le_refl _), Nat.ne_of_gt J1.lt, J1.nofs (Nat.le_refl _), fun v z => nomatch z⟩
  have hpa : PA (ncx CX0 P w K mg base N F fI A outer s H E) [e] (tCons te tNil) := pa_cons he pa_nil (hst _)
  show wpAny (model P w) (A.deeper (envF F fI s.heap.objs.size)) (callWith p3 (.ref h₂.objs.size) [] (backTo p3 (starEach [e] (envF F fI s.heap.objs.size))) []) _ _ _
  have hrun := hpa.run p3 _ _ _ H (fun us2 H1 => us2.length ≤ sizeLine ∧ H1 a = some (exo a C none) ∧ t { nx := fun _ H' => Q .non H', rt := Q } (startF N (.ref a :: ws) [some (.ref C)]) H1) J3 hq
  have hst' := hst s.heap.objs.size
  refine PySem.W.kxs_callWith (i := "ValueError.__init__") (x := a) (by rw [show starEach [e] (envF F fI s.heap.objs.size) = _ from hst']; rfl) ?_
  have hrun2 : wpAny (model P w) (A.deeper (envF F fI s.heap.objs.size)) (spliced (backTo p3 (starEach [e] (envF F fI s.heap.objs.size)))) _ _ _ := hrun
  rw [show starEach [e] (envF F fI s.heap.objs.size) = _ from hst'] at hrun2 ⊢
  refine evalArgs_plain (wpAny_mono hrun2 (fun us2 s2 ⟨vs2, H1, I4, r4, hz, ea, q⟩ => ⟨(I4.pin (h₂.objs.size, PySem.W.kxs_mw "ValueError.__init__" a) (List.mem_append_right _ (List.mem_singleton_self _))).1, ?_⟩) (fun _ _ z => z))
  have hz2 : us2.length ≤ sizeLine := by
    rw [← r4.length]
    exact hz
  have hu4 := (I4.pin (h₂.objs.size, PySem.W.kxs_mw "ValueError.__init__" a) (List.mem_append_right _ (List.mem_singleton_self _))).1
  obtain ⟨nm, qn, N', bs, bm, sn, sub, ab, col, dd, c0, c1, c2, c3, c5, hC, hbm⟩ := T.cls
  obtain ⟨t2, ho⟩ := exo_at I4.hok ea
  have hC4 := I4.kIn _ _ hC
  obtain ⟨hp, g, d, tk, os⟩ := s2
  refine wpAny_call (codeAny_of_tree ?_)
  show wpAny _ _ (callAny (.ref h₂.objs.size) ⟨us2, []⟩) _ _ _
  simp only [callAny]
  refine wpAny_bind (wpAny_load hu4 ?_)
  simp only [PySem.W.kxs_mw, show (Value.type "method-wrapper" == Value.type "method" || Value.type "method-wrapper" == Value.type "builtin_function_or_method" || Value.type "method-wrapper" == Value.type "method-wrapper") = true by decide, if_true]
  refine PySem.W.KFB.if_so (by decide) ?_
  refine wpAny_bind (PySem.W.check_bound_init PySem.F.excBase_ValueError.toExcCallFacts hC4 ho rfl ?_)
  refine wpAny_bind (wpAny_pure (wpAny_pure ?_))
  refine ⟨plainId_quiet PySem.F.excBase_ValueError.init.plain _, codeAny_builtin PySem.F.excBase_ValueError.initEntry ?_⟩
  have ho' : hp.get? a = some (PySem.W.excRec (.ref C) t2 none .none .none (.bool false)) := ho
  have e1 : (#[Value.builtin "ValueError.__init__", Value.ref a] : Array Value)[1] = Value.ref a := rfl
  rw [e1]
  refine PySem.W.exc_init_tree (e := a) (rest := us2) (cls := .ref C) (t0 := t2) (dv := none) (c2 := .none) (c3 := .none) (b4 := .bool false) ho' hz2 (fun h' k hx ht2 => ?_)
  have J := I4.write (t' := tk) (x := a) (e := a) (o := exo a C none) (by rw [ea]; exact True.intro) (.inl rfl) k ⟨_, hx⟩ (exo_ok hx)
  have eu : upd H1 a (exo a C none) = H1 := by
    funext b
    by_cases hb : b = a
    · rw [hb, upd_same, ea]
    · rw [upd_ne hb]
  rw [eu] at J
  exact wpAt_of_wpAny (ht.run [] _ _ H1 _ (J.pins_of (pins' := []) fun p hp => absurd hp (by simp)) q)
end Pd
/-! MthX -/
set_option Elab.async false
set_option linter.all false
set_option maxRecDepth 100000
set_option maxHeartbeats 4000000
/-! methods that may raise; a method called with keywords; raising an own exception with its own __init__ -/
namespace Pd
variable [Pd.Wd]
open PySem PySem.Spec PyProof.Rows L2
section
variable {X : Cx} {k : Nat} {C : Addr} {m x : Str} {ps : List Str} {dvs : List V} {sp : Sp} {o e : Expr} {es : List Expr} {ta : TE} {t : TA} {pos apos p : Pos} {E : XK}
end
section
variable {X : Cx} {k : Nat} {C : Addr} {m x : Str} {ps : List Str} {dvs : List V} {sp : Sp} {o e : Expr} {es : List Expr} {ta : TE} {t : TA} {pos apos p : Pos} {E : L2.St → XK}
end
section
variable {X : Cx} {CX : CXT} {k n : Nat} {C : Addr} {m : Str} {ps ks : List Str} {gV : List V → List V → List V} {sp : Sp} {o e : Expr} {es : List Expr} {kws : List Keyword} {ta : TE} {t tk : TA} {pos apos : Pos} {E : XK}
end
/-- an own exception class with its own __init__ -/
structure ExS (P : Program) (w : World) (K : PySem.W.Frag) (mg : Str → Option Value) (base : Heap) (nm : Str) (C : Addr) (ps : List Str) (spI : Sp) : Prop where
  T : OexC K C
  fn : ∃ fI fdI, PySem.W.findIn K (.ref C) "__init__" = some (some (.ref fI)) ∧ PySem.W.typeIn K (.ref fI) = some (.type "function") ∧ FnOk P w K mg base CX0 1 fI fdI ps spI ∧ Binds K fdI ps []
  m : mg nm = some (.ref C)
/-- raise nm(..) -/
def tRaiseX (C : Addr) (spI : Sp) (E : XK) (ta : TA) : TS := fun _ σ H => tMkO C spI [] ta σ H E
theorem ps_raiseX {X : Cx} {k : Nat} {C : Addr} {nm : Str} {psI : List Str} {spI : Sp} {E : XK} {e : Expr} {es : List Expr} {ta : TA} {p pos pos2 : Pos} (B : ExS X.prog X.w X.K X.mg X.base nm C psI spI) (tk : Takes X (fun cls d _ H => E cls d H)) (hr : Room k X.A) (ha : PA X (e :: es) ta)
    (hdb : (nm == ("__debug__" : Str)) = false := by decide) (hk : 2 ≤ k := by decide) (hc : X.calm = true := by rfl) (hg : Gl X nm := by rfl) (he : starEach (e :: es) X.env = (false, eval e X.env) :: starEach es X.env := by rfl) (hpl : (backTo pos (starEach es X.env)).any (·.1) = false := by rfl) :
    PS X (.Raise (some (.Call (.Name nm p) (e :: es) [] pos)) none pos2) (tRaiseX C spI E ta) := by
  obtain ⟨fI, fdI, iC, tI, F, b⟩ := B.fn
  exact ps_raise hc tk (pmk_oex B.T iC tI F (hr.mono hk) b .nil pass0 hg B.m ha hdb he hpl)
end Pd
/-! InitH17 -/
set_option Elab.async false
set_option linter.all false
set_option maxRecDepth 100000
set_option maxHeartbeats 4000000
/-! what the __init__s of BadHall, BadCells and BadText promise -/
namespace Pd
variable [Pd.Wd]
open PySem PySem.Spec PyProof.Rows L2
def initOkC (i : Int) : Bool := decide (i.natAbs.log2 < 1920) && decide ((Str.empty ++ Str.ofString "cell ").length ≤ sizeLine) && decide ((Str.empty ++ Str.ofString "cell " ++ Str.ofString (toString i)).length ≤ sizeLine) && decide ((Str.empty ++ Str.ofString "cell " ++ Str.ofString (toString i) ++ Str.ofString " of the walkers can't be").length ≤ sizeLine)
def initH0 (i : Int) : Str := Str.empty ++ Str.ofString "part " ++ Str.ofString (toString i) ++ Str.ofString " of the hall, number "
def initOkH (i j : Int) : Bool := decide (i.natAbs.log2 < 1920) && decide (j.natAbs.log2 < 1920) && decide ((Str.empty ++ Str.ofString "part ").length ≤ sizeLine) && decide ((Str.empty ++ Str.ofString "part " ++ Str.ofString (toString i)).length ≤ sizeLine) && decide ((initH0 i).length ≤ sizeLine) && decide ((initH0 i ++ Str.ofString (toString j)).length ≤ sizeLine) && decide ((initH0 i ++ Str.ofString (toString j) ++ Str.ofString ", can't be").length ≤ sizeLine)
theorem initOkC_lt : ∀ n : Nat, n < 8 → initOkC (n : Int) = true := by decide +kernel
theorem initOkH_lt : ∀ n : Nat, n < 4 → ∀ m : Nat, m < 32 → initOkH (n : Int) (m : Int) = true := by decide +kernel
def sp_initC (C : Addr) : Sp := fun vs H Q E => ∃ (a : Addr) (i : Int), vs = [.ref a, .int i] ∧ initOkC i = true ∧ H a = some (exo a C none) ∧ ∀ dx, H dx = none → dx ≠ a → Q .non (upd (upd H dx (exd dx [("number", .int i)])) a (exo a C (some dx)))
def sp_initH (C : Addr) : Sp := fun vs H Q E => ∃ (a : Addr) (i j : Int), vs = [.ref a, .int i, .int j] ∧ initOkH i j = true ∧ H a = some (exo a C none) ∧ ∀ dx, H dx = none → dx ≠ a → Q .non (upd (upd (upd H dx (exd dx [("part", .int i)])) a (exo a C (some dx))) dx (exd dx [("number", .int j), ("part", .int i)]))
/-- a raise, once its arguments are known -/
theorem raise_C {C : Addr} {H : Hp} {E : XK} {i : Int} (hi : initOkC i = true) (k : ∀ dx, H dx = none → E (.ref C) (some dx) (upd H dx (.xd [("number", .int i)]))) : ∀ a, H a = none → sp_initC C (.ref a :: ([.int i] ++ [])) (upd H a (exo a C none))
    (fun v H2 => v = .non ∧ ∃ (d : Addr) (fs : List (Str × V)), H2 a = some (exo a C (some d)) ∧ H2 d = some (exd d fs) ∧ H d = none ∧ E (.ref C) (some d) (upd (del H2 a) d (.xd fs))) (fun _ _ _ => False) := fun a ha => by
  refine ⟨a, i, rfl, hi, upd_same, fun dx hdx hne => ⟨rfl, dx, [("number", .int i)], upd_same, ?_, ?_, ?_⟩⟩
  · rw [upd_ne hne, upd_same]
  · rw [upd_ne hne] at hdx
    exact hdx
  · rw [upd_ne hne] at hdx
    have e : upd (del (upd (upd (upd H a (exo a C none)) dx (exd dx [("number", .int i)])) a (exo a C (some dx))) a) dx (.xd [("number", .int i)]) = upd H dx (.xd [("number", .int i)]) := by
      funext b
      by_cases hb : b = dx
      · subst hb
        rw [upd_same, upd_same]
      · rw [upd_ne hb, upd_ne hb]
        unfold del
        by_cases hba : b = a
        · subst hba
          rw [if_pos rfl, ha]
        · rw [if_neg hba, upd_ne hba, upd_ne hb, upd_ne hba]
    rw [e]
    exact k dx hdx
theorem raise_H {C : Addr} {H : Hp} {E : XK} {i j : Int} (hi : initOkH i j = true) (k : ∀ dx, H dx = none → E (.ref C) (some dx) (upd H dx (.xd [("number", .int j), ("part", .int i)]))) : ∀ a, H a = none → sp_initH C (.ref a :: ([.int i, .int j] ++ [])) (upd H a (exo a C none))
    (fun v H2 => v = .non ∧ ∃ (d : Addr) (fs : List (Str × V)), H2 a = some (exo a C (some d)) ∧ H2 d = some (exd d fs) ∧ H d = none ∧ E (.ref C) (some d) (upd (del H2 a) d (.xd fs))) (fun _ _ _ => False) := fun a ha => by
  refine ⟨a, i, j, rfl, hi, upd_same, fun dx hdx hne => ⟨rfl, dx, [("number", .int j), ("part", .int i)], ?_, upd_same, ?_, ?_⟩⟩
  · rw [upd_ne (Ne.symm hne), upd_same]
  · rw [upd_ne hne] at hdx
    exact hdx
  · rw [upd_ne hne] at hdx
    have e : upd (del (upd (upd (upd (upd H a (exo a C none)) dx (exd dx [("part", .int i)])) a (exo a C (some dx))) dx (exd dx [("number", .int j), ("part", .int i)])) a) dx (.xd [("number", .int j), ("part", .int i)]) = upd H dx (.xd [("number", .int j), ("part", .int i)]) := by
      funext b
      by_cases hb : b = dx
      · subst hb
        rw [upd_same, upd_same]
      · rw [upd_ne hb, upd_ne hb]
        unfold del
        by_cases hba : b = a
        · subst hba
          rw [if_pos rfl, ha]
        · rw [if_neg hba, upd_ne hb, upd_ne hba, upd_ne hb, upd_ne hba]
    rw [e]
    exact k dx hdx
end Pd
/-! Rul17 -/
set_option Elab.async false
set_option linter.all false
set_option maxRecDepth 100000
set_option maxHeartbeats 4000000
/-! a text once or not at all, the signs of a text, calls among defs that raise -/
namespace Pd
variable [Pd.Wd]
open PySem PySem.Spec PyProof.Rows L2
/-- a call of a def that may raise, in a def that may raise -/
theorem pe_dcallX {X : Cx} {k : Nat} {x : Str} {ps : List Str} {sp : Sp} {p pos : Pos} {e : Expr} {es : List Expr} {t : TA} {E : XK} (G : DefS X.prog X.w X.K X.mg X.base (L2.CX X.prog X.w) k x ps sp) (hr : Room k X.A) (hx : Passes (L2.CX X.prog X.w) X E) (ha : PA X (e :: es) t) (hg : Gl X x := by rfl)
    (hdb : (x == ("__debug__" : Str)) = false := by decide) (he : starEach (e :: es) X.env = (false, eval e X.env) :: starEach es X.env := by rfl) (hpl : (backTo pos (starEach es X.env)).any (·.1) = false := by rfl) :
    PE X (.Call (.Name x p) (e :: es) [] pos) (tCall sp [] E t) := by
  obtain ⟨f, fd, h1, h2, h3, h4⟩ := G
  exact pe_call h4 hr hg h1 h2 h3 .nil hx ha hdb he hpl
end Pd
/-! RdB17 -/
set_option Elab.async false
set_option linter.all false
set_option maxRecDepth 100000
set_option maxHeartbeats 4000000
namespace Pd
variable [Pd.Wd]
open PySem PySem.Spec PyProof.Rows L2
def rx_check_edges (K : PySem.W.Frag) (CH : Addr) (E : XK) (sp_is_edge : Sp) : TS := (tFor (iEnumX K (tCons (tVar 2) tNil)) (gTup K 2 (gCons (gName 5) (gCons (gName 6) gNil))) (tSeq (tIfS (tOr (tTest (tOp (rEqD K) (tVar 5) (tVar 3))) (tNot (tB (tCallD sp_is_edge (tCons (tVar 0) (tCons (tVar 6) tNil)))))) (tRaiseX CH (sp_initH CH) E (tCons (tVar 1) (tCons (tVar 5) tNil))) tNext) (tIfS (tOr (tTest (tOp (rInX K false) (tVar 6) (tVar 4))) (tTest (tOp (rInX K false) (tVar 6) (tSl (rSlX K) (tVar 2) tNoPart (tPart (tVar 5)))))) (tRaiseX CH (sp_initH CH) E (tCons (tVar 1) (tCons (tVar 5) tNil))) tNext)))
def rx_check_hall (K : PySem.W.Frag) (CH : Addr) (E : XK) (sp_door_edge : Sp) (sp_is_side : Sp) (sx_check_edges : Sp) : TS := (tSeq (tIfS (tOr (tNot (tB (tCB (rIsi K) (tCons (tVar 0) (tCons (tC (.ty "tuple")) tNil))))) (tTest (tOp (rNeD K) (tCB (rLenX K) (tCons (tVar 0) tNil)) (tC (.int 4))))) (tRaiseX CH (sp_initH CH) E (tCons (tC (.int 0)) (tCons (tC (.int 0)) tNil))) tNext) (tSeq (tAsg (tVar 0) (gTup K 4 (gCons (gName 1) (gCons (gName 2) (gCons (gName 3) (gCons (gName 4) gNil)))))) (tSeq (tIfS (tNot (tB (tCallD sp_is_side (tCons (tVar 1) tNil)))) (tRaiseX CH (sp_initH CH) E (tCons (tC (.int 0)) (tCons (tC (.int 0)) tNil))) tNext) (tSeq (tIfS (tNot (tB (tCallD sp_is_side (tCons (tVar 2) tNil)))) (tRaiseX CH (sp_initH CH) E (tCons (tC (.int 1)) (tCons (tC (.int 0)) tNil))) tNext) (tSeq (tIfS (tNot (tB (tCB (rIsi K) (tCons (tVar 3) (tCons (tC (.ty "tuple")) tNil))))) (tRaiseX CH (sp_initH CH) E (tCons (tC (.int 2)) (tCons (tC (.int 0)) tNil))) tNext) (tSeq (tDrop (tCall sx_check_edges [] E (tCons (tVar 0) (tCons (tC (.int 2)) (tCons (tVar 3) (tCons (tC (.int 24)) (tCons (tTup tNil) tNil))))))) (tSeq (tIfS (tNot (tB (tCB (rIsi K) (tCons (tVar 4) (tCons (tC (.ty "tuple")) tNil))))) (tRaiseX CH (sp_initH CH) E (tCons (tC (.int 3)) (tCons (tC (.int 0)) tNil))) tNext) (tDrop (tCall sx_check_edges [] E (tCons (tVar 0) (tCons (tC (.int 3)) (tCons (tLc (iTup K (tVar 4)) (gName 5) tYes (tCallD sp_door_edge (tCons (tVar 5) tNil)) [5]) (tCons (tC (.int 6)) (tCons (tVar 3) tNil))))))))))))))
def rx_check_cells (K : PySem.W.Frag) (CC : Addr) (E : XK) (sp_is_cell : Sp) : TS := (tSeq (tIfS (tOr (tNot (tB (tCB (rIsi K) (tCons (tVar 1) (tCons (tC (.ty "tuple")) tNil))))) (tTest (tOp (rEqD K) (tCB (rLenX K) (tCons (tVar 1) tNil)) (tC (.int 0))))) (tRaiseX CC (sp_initC CC) E (tCons (tC (.int 0)) tNil)) tNext) (tFor (iEnumX K (tCons (tVar 1) tNil)) (gTup K 2 (gCons (gName 2) (gCons (gName 3) gNil))) (tIfS (tOr (tTest (tOp (rEqD K) (tVar 2) (tC (.int 3)))) (tOr (tNot (tB (tCallD sp_is_cell (tCons (tVar 0) (tCons (tVar 3) tNil))))) (tTest (tOp (rInX K false) (tVar 3) (tSl (rSlX K) (tVar 1) tNoPart (tPart (tVar 2))))))) (tRaiseX CC (sp_initC CC) E (tCons (tVar 2) tNil)) tNext)))
def rx_check_start (K : PySem.W.Frag) (E : XK) (sx_check_cells : Sp) (sx_check_hall : Sp) : TS := (tSeq (tDrop (tCall sx_check_hall [] E (tCons (tVar 0) tNil))) (tDrop (tCall sx_check_cells [] E (tCons (tVar 0) (tCons (tVar 1) tNil)))))
def rx_may (K : PySem.W.Frag) (E : XK) (sp_first_standing : Sp) (sp_moves_from : Sp) (sx_check_start : Sp) : TS := (tSeq (tDrop (tCall sx_check_start [] E (tCons (tVar 0) (tCons (tVar 1) tNil)))) (tRet (tLc (iList K (tCallD sp_moves_from (tCons (tVar 0) (tCons (tCallD sp_first_standing (tCons (tVar 0) (tCons (tVar 1) tNil))) tNil)))) (gName 2) tYes (tOp (rIx K) (tVar 2) (tC (.int 0))) [2])))
end Pd
/-! RulK -/
set_option Elab.async false
set_option linter.all false
set_option maxRecDepth 100000
set_option maxHeartbeats 4000000
/-! min(i, j), list(tuple) -/
namespace Pd
variable [Pd.Wd]
open PySem PySem.Spec PyProof.Rows L2
def rMin2I : List V → Hp → VK → Prop := fun xs H Q => ∃ i j, xs = [.int i, .int j] ∧ Q (.int (if j < i then j else i)) H
theorem rc_min2 {i j : Int} : RC rMin2I [.int i, .int j] (.int (if j < i then j else i)) := fun B H vs ex dv Q q => by
  cases dv with
  | cons a r =>
  cases r with
  | cons b r =>
    cases r
    cases a
    cases b
    exact ⟨_, _, rfl, q _ B H (Gr.refl ex) (.int _)⟩
theorem rc_listT {K : PySem.W.Frag} {ds : List PyData} : RC (rListX K) [.tuple ds] (.list ds) := fun B H vs ex dv Q q => by
  cases dv with
  | cons a r =>
    cases r
    cases a with
    | @tup p xs _ ha hs => exact ⟨p, xs, rfl, .inr (SqT.of (ex _ _ ha)), fun l hl => q _ _ _ (Gr.new ex hl) (.lst upd_same (hs.mono (Ex.new (ex.nil hl))))⟩
end Pd
/-! RdL01 -/
set_option Elab.async false
set_option linter.all false
set_option maxRecDepth 100000
set_option maxHeartbeats 4000000
namespace Pd
variable [Pd.Wd]
open PySem PySem.Spec PyProof.Rows L2
def rd_L_odd (K : PySem.W.Frag) (sp_L_taken : Sp) : TS := (tSeq (tAsg (tVar 1) (gTup K 4 (gCons (gName 2) (gCons (gName 3) (gCons (gName 4) (gCons (gName 5) gNil)))))) (tSeq (tAsg (tOp (rAddX K) (tC (.int 6)) (tCallD sp_L_taken (tCons (tVar 0) (tCons (tOp rPowI (tC (.int 10)) (tC (.int 9))) tNil)))) (gName 6)) (tSeq (tIfS (tTest (tOp (rEqD K) (tCallD sp_L_taken (tCons (tVar 0) (tCons (tC (.int 3)) tNil))) (tC (.int 0)))) (tSeq (tAsg (tOp (rIx K) (tLst (tCons (tC (.int 0)) (tCons (tC (.int 6)) (tCons (tVar 6) (tCons (tC (.bl true)) (tCons (tC .non) (tCons (tC (.str "3")) tNil))))))) (tCallD sp_L_taken (tCons (tVar 0) (tCons (tC (.int 6)) tNil)))) (gName 7)) (tRet (tOp (rIx K) (tLst (tCons (tTup (tCons (tTup (tCons (tVar 7) (tCons (tVar 3) (tCons (tC (.int 5)) (tCons (tC (.int 5)) tNil))))) (tCons (tC (.int 0)) (tCons (tC (.int 0)) tNil)))) (tCons (tTup (tCons (tTup (tCons (tVar 2) (tCons (tVar 7) (tCons (tC (.int 5)) (tCons (tC (.int 5)) tNil))))) (tCons (tC (.int 1)) (tCons (tC (.int 0)) tNil)))) tNil))) (tCallD sp_L_taken (tCons (tVar 0) (tCons (tC (.int 2)) tNil)))))) tNext) (tSeq (tIfS (tTest (tOp (rEqD K) (tCallD sp_L_taken (tCons (tVar 0) (tCons (tC (.int 2)) tNil))) (tC (.int 0)))) (tSeq (tAsg (tCallD sp_L_taken (tCons (tVar 0) (tCons (tOp (rAddX K) (tCB (rLenX K) (tCons (tVar 4) tNil)) (tC (.int 1))) tNil))) (gName 8)) (tSeq (tAsg (tLst (tCons (tTup (tCons (tC (.int 0)) (tCons (tC (.int 0)) (tCons (tC (.str "-")) tNil)))) (tCons (tTup (tCons (tC (.int 0)) (tCons (tC (.int 0)) (tCons (tC (.str "|")) tNil)))) (tCons (tTup (tCons (tVar 2) (tCons (tC (.int 0)) (tCons (tC (.str "-")) tNil)))) (tCons (tTup (tCons (tC (.int 0)) (tCons (tVar 3) (tCons (tC (.str "|")) tNil)))) (tCons (tTup (tCons (tC (.int 1)) (tCons (tC (.int 1)) tNil))) (tCons (tTup (tCons (tC (.int 1)) (tCons (tC (.int 0)) (tCons (tC (.str "+")) tNil)))) (tCons (tTup (tCons (tC (.bl true)) (tCons (tC (.int 0)) (tCons (tC (.str "-")) tNil)))) tNil)))))))) (gName 9)) (tSeq (tAsg (tOp (rAddX K) (tOp (rAddX K) (tVar 9) (tLst (tCons (tC .non) (tCons (tC (.int 5)) (tCons (tTup (tCons (tVar 6) (tCons (tC (.int 0)) (tCons (tC (.str "-")) tNil)))) (tCons (tTup (tCons (tC (.int 1)) (tCons (tC (.int 0)) (tCons (tC (.int 5)) tNil)))) (tCons (tLst (tCons (tC (.int 1)) (tCons (tC (.int 0)) (tCons (tC (.str "-")) tNil)))) tNil))))))) (tLc (iTup K (tSl (rSlX K) (tVar 4) tNoPart (tPart (tCB rMin2I (tCons (tVar 8) (tCons (tC (.int 1)) tNil)))))) (gName 10) tYes (tVar 10) [10])) (gName 9)) (tRet (tTup (tCons (tTup (tCons (tVar 2) (tCons (tVar 3) (tCons (tOp (rAddX K) (tOp (rAddX K) (tSl (rSlX K) (tVar 4) tNoPart (tPart (tVar 8))) (tTup (tCons (tOp (rIx K) (tVar 9) (tCallD sp_L_taken (tCons (tVar 0) (tCons (tCB (rLenX K) (tCons (tVar 9) tNil)) tNil)))) tNil))) (tSl (rSlX K) (tVar 4) (tPart (tVar 8)) tNoPart)) (tCons (tC (.int 5)) tNil))))) (tCons (tC (.int 2)) (tCons (tVar 8) tNil)))))))) tNext) (tSeq (tAsg (tCallD sp_L_taken (tCons (tVar 0) (tCons (tOp (rAddX K) (tCB (rLenX K) (tCons (tVar 5) tNil)) (tC (.int 1))) tNil))) (gName 8)) (tSeq (tAsg (tLst (tCons (tTup (tCons (tC (.int 0)) (tCons (tC (.int 0)) (tCons (tC (.str "n")) tNil)))) (tCons (tTup (tCons (tC (.int 0)) (tCons (tC (.int 0)) (tCons (tC (.str "e")) tNil)))) (tCons (tTup (tCons (tC (.int 0)) (tCons (tC (.int 0)) (tCons (tC (.str "s")) tNil)))) (tCons (tTup (tCons (tVar 2) (tCons (tVar 3) (tCons (tC (.str "w")) tNil)))) (tCons (tTup (tCons (tVar 2) (tCons (tVar 3) (tCons (tC (.str "n")) tNil)))) (tCons (tTup (tCons (tC (.int 1)) (tCons (tC (.int 1)) tNil))) (tCons (tTup (tCons (tC (.int 1)) (tCons (tC (.int 1)) (tCons (tC (.str "x")) tNil)))) (tCons (tTup (tCons (tC (.int 1)) (tCons (tC (.int 1)) (tCons (tC (.int 0)) tNil)))) tNil))))))))) (gName 9)) (tSeq (tAsg (tOp (rAddX K) (tOp (rAddX K) (tVar 9) (tLst (tCons (tTup (tCons (tOp rSubI (tC (.int 0)) (tC (.int 1))) (tCons (tC (.int 0)) (tCons (tC (.str "s")) tNil)))) (tCons (tTup (tCons (tVar 6) (tCons (tC (.int 0)) (tCons (tC (.str "n")) tNil)))) (tCons (tTup (tCons (tC (.bl true)) (tCons (tC (.int 1)) (tCons (tC (.str "n")) tNil)))) (tCons (tC .non) (tCons (tLst (tCons (tC (.int 1)) (tCons (tC (.int 1)) (tCons (tC (.str "n")) tNil)))) tNil))))))) (tCB (rListX K) (tCons (tSl (rSlX K) (tVar 5) tNoPart (tPart (tCB rMin2I (tCons (tVar 8) (tCons (tC (.int 1)) tNil))))) tNil))) (gName 9)) (tRet (tTup (tCons (tTup (tCons (tVar 2) (tCons (tVar 3) (tCons (tVar 4) (tCons (tOp (rAddX K) (tOp (rAddX K) (tSl (rSlX K) (tVar 5) tNoPart (tPart (tVar 8))) (tTup (tCons (tOp (rIx K) (tVar 9) (tCallD sp_L_taken (tCons (tVar 0) (tCons (tCB (rLenX K) (tCons (tVar 9) tNil)) tNil)))) tNil))) (tSl (rSlX K) (tVar 5) (tPart (tVar 8)) tNoPart)) tNil))))) (tCons (tC (.int 3)) (tCons (tVar 8) tNil))))))))))))
def rd_law01 (K : PySem.W.Frag) (tLW1 tLW2 tLW3 tLW4 tLW5 tLW6 tLW7 : TE) (sp_L_hall : Sp) (sp_L_odd : Sp) (sp_L_works : Sp) : TS := (tSeq (tAsg (tLst (tCons (tVar 0) (tCons (tC (.int 0)) (tCons (tC (.int 0)) (tCons (tC (.int 0)) tNil))))) (gName 1)) (tSeq (tFor (iRng1 (tCons (tC (.int 5)) tNil)) (gName 2) (tSeq (tAsg (tCallD sp_L_hall (tCons (tVar 1) (tCons (tC (.int 5)) (tCons (tC (.int 6)) tNil)))) (gName 10)) (tSeq (tIfS (tTest (tOp rNotN tLW1 (tC .non))) (tRet (tC (.bl false))) tNext) (tSeq (tAsg (tCallD sp_L_odd (tCons (tVar 1) (tCons (tVar 10) tNil))) (gTup K 3 (gCons (gName 8) (gCons (gName 3) (gCons (gName 4) gNil))))) (tSeq (tIfS (tTest (tOp (rNeD K) (tLc (iList K (tCallD sp_L_works (tCons (tVar 8) tNil))) (gName 12) (tTest (tOp (rNeD K) tLW2 (tTup (tCons (tC (.str "hall")) (tCons (tVar 3) (tCons (tVar 4) tNil)))))) (tVar 12) [12]) (tLst tNil))) (tRet (tC (.bl false))) tNext) (tSeq (tAsg (tLst (tCons (tTup (tCons (tTup (tCons (tVar 10) (tCons (tC (.int 0)) tNil))) (tCons (tC (.int 0)) (tCons (tC (.int 0)) tNil)))) (tCons (tTup (tCons (tC (.int 5)) (tCons (tC (.int 0)) (tCons (tC (.int 0)) tNil)))) (tCons (tTup (tCons (tCB (rListX K) (tCons (tVar 10) tNil)) (tCons (tC (.int 0)) (tCons (tC (.int 0)) tNil)))) (tCons (tTup (tCons (tOp (rAddX K) (tVar 10) (tTup (tCons (tC (.int 1)) tNil))) (tCons (tC (.int 0)) (tCons (tC (.int 0)) tNil)))) tNil))))) (gName 5)) (tSeq (tDrop (tBM K "list" rAppend (tVar 5) (tCons (tTup (tCons (tOp (rAddX K) (tSl (rSlX K) (tVar 10) tNoPart (tPart (tC (.int 2)))) (tTup (tCons (tCB (rListX K) (tCons (tOp (rIx K) (tVar 10) (tC (.int 2))) tNil)) (tCons (tC (.int 5)) tNil)))) (tCons (tC (.int 2)) (tCons (tC (.int 0)) tNil)))) tNil))) (tSeq (tDrop (tBM K "list" rAppend (tVar 5) (tCons (tTup (tCons (tOp (rAddX K) (tSl (rSlX K) (tVar 10) tNoPart (tPart (tC (.int 3)))) (tTup (tCons (tCB (rListX K) (tCons (tOp (rIx K) (tVar 10) (tC (.int 3))) tNil)) tNil))) (tCons (tC (.int 3)) (tCons (tC (.int 0)) tNil)))) tNil))) (tFor (iList K (tVar 5)) (gTup K 3 (gCons (gName 8) (gCons (gName 3) (gCons (gName 4) gNil)))) (tIfS (tTest (tOp (rNeD K) tLW3 (tTup (tCons (tC (.str "hall")) (tCons (tVar 3) (tCons (tVar 4) tNil)))))) (tRet (tC (.bl false))) tNext)))))))))) (tSeq (tAsg (tLst tNil) (gName 11)) (tSeq (tFor (iRng1 (tCons (tC (.int 5)) tNil)) (gName 6) (tAsg (tOp (rAddX K) (tOp (rAddX K) (tVar 11) (tLc (iRng1 (tCons (tOp rMulX (tC (.int 5)) (tCB rIntX (tCons (tOp rGtI (tVar 6) (tC (.int 0))) tNil))) tNil)) (gName 13) tYes (tTup (tCons (tVar 6) (tCons (tVar 13) (tCons (tC (.str "-")) tNil)))) [13])) (tLc (iRng2 (tCons (tC (.int 1)) (tCons (tC (.int 5)) tNil))) (gName 13) tYes (tTup (tCons (tVar 6) (tCons (tVar 13) (tCons (tC (.str "|")) tNil)))) [13])) (gName 11))) (tSeq (tAsg (tLst (tCons (tTup (tCons (tC (.int 1)) (tCons (tC (.int 1)) (tCons (tC (.str "n")) tNil)))) (tCons (tTup (tCons (tC (.int 1)) (tCons (tC (.int 2)) (tCons (tC (.str "n")) tNil)))) (tCons (tTup (tCons (tC (.int 1)) (tCons (tC (.int 3)) (tCons (tC (.str "n")) tNil)))) (tCons (tTup (tCons (tC (.int 1)) (tCons (tC (.int 4)) (tCons (tC (.str "n")) tNil)))) (tCons (tTup (tCons (tC (.int 4)) (tCons (tC (.int 1)) (tCons (tC (.str "s")) tNil)))) (tCons (tTup (tCons (tC (.int 4)) (tCons (tC (.int 2)) (tCons (tC (.str "s")) tNil)))) (tCons (tTup (tCons (tC (.int 4)) (tCons (tC (.int 3)) (tCons (tC (.str "s")) tNil)))) tNil)))))))) (gName 9)) (tSeq (tAsg (tLst (tCons tLW4 tNil)) (gName 7)) (tSeq (tDrop (tBM K "list" rAppend (tVar 7) (tCons tLW5 tNil))) (tSeq (tDrop (tBM K "list" rAppend (tVar 7) (tCons tLW6 tNil))) (tSeq (tDrop (tBM K "list" rAppend (tVar 7) (tCons tLW7 tNil))) (tRet (tOp (rEqD K) (tVar 7) (tLst (tCons (tTup (tCons (tC (.str "hall")) (tCons (tC (.int 2)) (tCons (tC (.int 24)) tNil)))) (tCons (tC .non) (tCons (tTup (tCons (tC (.str "hall")) (tCons (tC (.int 3)) (tCons (tC (.int 6)) tNil)))) (tCons (tC .non) tNil))))))))))))))))
end Pd
/-! LamP -/
set_option Elab.async false
set_option linter.all false
set_option maxRecDepth 100000
set_option maxHeartbeats 4000000
/-! a lambda with parameters that is handed to a def and called there: its object and the cells that it captured are known to the callee -/
namespace Lmp
variable [Pd.Wd]
open PySem PySem.Spec PyProof.Rows L2 LamX NdefX
/-- a lambda's words, the cells that it captured, its code object -/
structure LF where
  qual : Str
  params : Arguments
  body : Expr
  scope : Scope
  cl : List (Str × Addr)
  c : Addr
abbrev LF.fd (F : LF) (pm ctv : Value) : FuncData := PySem.W.kla_fn "<lambda>" F.qual F.params F.body F.scope F.cl pm (.ref F.c) ctv
abbrev LF.nf (F : LF) : NF := ⟨"<lambda>", F.qual, F.params, [], F.scope, F.cl, F.c⟩
abbrev LF.cs (F : LF) : List Addr := F.cl.map (·.2)
/-- the object at f is the lambda F -/
def LamO (f : Addr) (F : LF) : HO := .ext fun h => ∃ pm ctv : Value, h.get? f = some (⟨.type "function", none, .func (F.fd pm ctv), #[]⟩ : Obj)
/-- the object at c is o -/
def CelO (c : Addr) (o : Obj) : HO := .ext fun h => h.get? c = some o
theorem lamO_at {P : Program} {w : World} {H : Hp} {h : Heap} {f : Addr} {F : LF} (hok : HOk P w H h) (e : H f = some (LamO f F)) : ∃ pm ctv : Value, h.get? f = some (⟨.type "function", none, .func (F.fd pm ctv), #[]⟩ : Obj) := (hok f _ e).1
theorem celO_at {P : Program} {w : World} {H : Hp} {h : Heap} {c : Addr} {o : Obj} (hok : HOk P w H h) (e : H c = some (CelO c o)) : h.get? c = some o := (hok c _ e).1
theorem celO_tup {c : Addr} {o : Obj} {xs : List V} : CelO c o ≠ .tup xs := fun z => by
  unfold CelO at z
  cases z
theorem celO_tbl {c : Addr} {o : Obj} {ps : Array Value} : CelO c o ≠ .tbl ps := fun z => by
  unfold CelO at z
  cases z
theorem celO_own {c x : Addr} {o : Obj} : CelO c o ≠ .own x := fun z => by
  unfold CelO at z
  cases z
/-- the captured cells are known: what they hold -/
structure CellsT (cl : List (Str × Addr)) (fr : List Str) (ws : List (Option V)) (H : Hp) : Prop where
  len : ws.length = fr.length
  all : ∀ y c, (y, c) ∈ cl → ∃ (o : Obj) (v : Option Value), H c = some (CelO c o) ∧ o.data = .cell v
  inj : ∀ x y c, cl.lookup x = some c → cl.lookup y = some c → x = y
  has : ∀ (i : Nat) (y : Str), fr[i]? = some y → ∃ (c : Addr) (o : Obj), cl.lookup y = some c ∧ H c = some (CelO c o) ∧ ∀ v, ws[i]? = some (some v) → ∃ u, RelV v u ∧ o.data = .cell (some u)
theorem CellsT.ext {cl : List (Str × Addr)} {fr : List Str} {ws : List (Option V)} {H H' : Hp} (c : CellsT cl fr ws H) (e : ∀ b o, b ∈ cl.map (·.2) → H b = some o → H' b = some o) : CellsT cl fr ws H' := by
  refine ⟨c.len, fun y a h => ?_, c.inj, fun i y h => ?_⟩
  · obtain ⟨o, v, h1, h2⟩ := c.all y a h
    exact ⟨o, v, e _ _ (List.mem_map.mpr ⟨_, h, rfl⟩) h1, h2⟩
  · obtain ⟨a, o, h1, h2, h3⟩ := c.has i y h
    exact ⟨a, o, h1, e _ _ (List.mem_map.mpr ⟨_, PySem.mem_of_lookup h1, rfl⟩) h2, h3⟩
/-- the cells are no longer known -/
def hid (H : Hp) (cs : List Addr) : Hp := fun b => if b ∈ cs then none else H b
/-- .. are known again -/
def bck (H H' : Hp) (cs : List Addr) : Hp := fun b => if b ∈ cs then H b else H' b
theorem hid_ne {H : Hp} {cs : List Addr} {b : Addr} (h : b ∉ cs) : hid H cs b = H b := if_neg h
theorem hid_in {H : Hp} {cs : List Addr} {b : Addr} (h : b ∈ cs) : hid H cs b = none := if_pos h
theorem bck_ne {H H' : Hp} {cs : List Addr} {b : Addr} (h : b ∉ cs) : bck H H' cs b = H' b := if_neg h
theorem bck_in {H H' : Hp} {cs : List Addr} {b : Addr} (h : b ∈ cs) : bck H H' cs b = H b := if_pos h
section
variable {P : Program} {w : World} {H H' : Hp} {h h' : Heap} {cs : List Addr} {fs : List Addr}
/-- each of the cells is known -/
def AllCel (H : Hp) (cs : List Addr) : Prop := ∀ c ∈ cs, ∃ o, H c = some (CelO c o)
theorem hok_hid (ok : HOk P w H h) (hc : AllCel H cs) : HOk P w (hid H cs) h := fun a o e => by
  by_cases ha : a ∈ cs
  · rw [hid_in ha] at e
    cases e
  · rw [hid_ne ha] at e
    refine (ok a o e).stay (fun _ _ _ q => q) (fun b q => ?_) fun b xs q => ?_
    · by_cases hb : b ∈ cs
      · obtain ⟨z, hz⟩ := hc b hb
        rw [hz] at q
        exact absurd (Option.some.inj q) celO_own
      · rw [hid_ne hb]
        exact q
    · by_cases hb : b ∈ cs
      · obtain ⟨z, hz⟩ := hc b hb
        rw [hz] at q
        exact absurd (Option.some.inj q) celO_tup
      · rw [hid_ne hb]
        exact q
theorem cel_there (ok : HOk P w H h) (hc : AllCel H cs) {c : Addr} (hm : c ∈ cs) : ∃ o, H c = some (CelO c o) ∧ h.get? c = some o := by
  obtain ⟨o, ho⟩ := hc c hm
  exact ⟨o, ho, celO_at ok ho⟩
theorem un_bck (ok : HOk P w H h) (hc : AllCel H cs) (u : Un fs [] (hid H cs) H' h h') : Un fs [] H (bck H H' cs) h h' where
  keep := fun b o e n hf hx => u.keep b o e (by
    unfold hid
    split
    · rfl
    · exact n) hf hx
  slot := fun b o e n hf hx => u.slot b o e (by
    unfold hid
    split
    · rfl
    · exact n) hf hx
  free := fun b o e n hx => by
    by_cases hb : b ∈ cs
    · obtain ⟨z, hz⟩ := hc b hb
      rw [hz] at n
      cases n
    · rw [bck_ne hb]
      exact u.free b o e (by rw [hid_ne hb]; exact n) hx
  there := u.there
  tups := fun b xs e => by
    by_cases hb : b ∈ cs
    · rw [bck_in hb]
      exact e
    · rw [bck_ne hb]
      exact u.tups b xs (by rw [hid_ne hb]; exact e)
  frzs := fun b o v e => by
    by_cases hb : b ∈ cs
    · rw [bck_in hb]
      exact e
    · rw [bck_ne hb]
      exact u.frzs b o v (by rw [hid_ne hb]; exact e)
  tbls := fun b ps e => by
    by_cases hb : b ∈ cs
    · obtain ⟨z, hz⟩ := hc b hb
      rw [hz] at e
      exact absurd (Option.some.inj e) celO_tbl
    · rw [bck_ne hb]
      exact u.tbls b ps (by rw [hid_ne hb]; exact e)
theorem hok_bck (ok : HOk P w H h) (hc : AllCel H cs) (nf : ∀ c ∈ cs, c ∉ fs) (u : Un fs [] (hid H cs) H' h h') (ok' : HOk P w H' h') : HOk P w (bck H H' cs) h' := fun a o e => by
  have none' : ∀ b ∈ cs, H' b = none := fun b hb => by
    obtain ⟨z, _, hz⟩ := cel_there ok hc hb
    exact u.free b z hz (hid_in hb) (by simp)
  by_cases ha : a ∈ cs
  · rw [bck_in ha] at e
    obtain ⟨z, h1, h2⟩ := cel_there ok hc ha
    rw [h1] at e
    cases e
    have k := u.keep a z h2 (hid_in ha) (nf a ha) (by simp)
    exact ⟨k, ⟨z, k⟩, fun h1 h2 p q => q _ p⟩
  · rw [bck_ne ha] at e
    refine (ok' a o e).stay (fun _ _ _ q => q) (fun b q => ?_) fun b xs q => ?_
    · by_cases hb : b ∈ cs
      · rw [none' b hb] at q
        cases q
      · rw [bck_ne hb]
        exact q
    · by_cases hb : b ∈ cs
      · rw [none' b hb] at q
        cases q
      · rw [bck_ne hb]
        exact q
end
section
variable {P : Program} {w : World} {K : PySem.W.Frag} {mg : Str → Option Value} {N ps fr : List Str} {F : LF} {k j : Nat} {sp : List (Option V) → Sp}
theorem CellsT.allCel {cl : List (Str × Addr)} {fr : List Str} {ws : List (Option V)} {H : Hp} (c : CellsT cl fr ws H) : AllCel H (cl.map (·.2)) := fun a ha => by
  obtain ⟨⟨y, b⟩, hm, rfl⟩ := List.mem_map.mp ha
  obtain ⟨o, _, h, _⟩ := c.all y b hm
  exact ⟨o, h⟩
theorem CellsT.cellsAt {cl : List (Str × Addr)} {fr : List Str} {ws : List (Option V)} {H : Hp} {h : Heap} (c : CellsT cl fr ws H) (ok : HOk P w H h) : CellsAt cl fr ws h (hid H (cl.map (·.2))) := by
  refine ⟨c.len, fun y a e => ?_, c.inj, fun i y e => ?_⟩
  · have hm := PySem.mem_of_lookup e
    obtain ⟨o, v, h1, h2⟩ := c.all y a hm
    exact ⟨hid_in (List.mem_map.mpr ⟨_, hm, rfl⟩), v, o, celO_at ok h1, h2⟩
  · obtain ⟨a, o, h1, h2, h3⟩ := c.has i y e
    refine ⟨a, h1, fun v hv => ?_⟩
    obtain ⟨u, r, hd⟩ := h3 v hv
    exact ⟨u, r, o, celO_at ok h2, hd⟩
end
section
variable {X : Cx} {ps : List Str} {i j k : Nat} {x : Str} {t : TA} {e : Expr} {es : List Expr} {p pos : Pos}
end
end Lmp
/-! LamQ -/
set_option Elab.async false
set_option linter.all false
set_option maxRecDepth 100000
set_option maxHeartbeats 4000000
/-! the lambda as a value, known from now on; a call for which the captured cells are known -/
namespace Lmp
variable [Pd.Wd]
open PySem PySem.Spec PyProof.Rows L2 LamX NdefX
section
variable {X : Cx} {pins : List (Addr × Obj)} {σ : L2.St} {H : Hp} {s : Shared}
theorem inv_lam {F : LF} {o : Obj} {t' : Nat} {pm ctv : Value} (I : Inv X pins σ H s) (ho : o = { cls := .type "function", data := .func (F.fd pm ctv) }) :
    Inv X pins σ (upd H s.heap.objs.size (LamO s.heap.objs.size F)) { s with heap := s.heap.push o, toks := t' } := by
  subst ho
  refine I.laid (a := s.heap.objs.size) (fun b u e => Heap.get?_push_of_some _ e) (Nat.le_refl _) ?_
  have e : (s.heap.push ({ cls := .type "function", data := .func (F.fd pm ctv) } : Obj)).get? s.heap.objs.size = some ({ cls := .type "function", data := .func (F.fd pm ctv) } : Obj) := Heap.get?_push_size _ rfl
  exact ⟨⟨pm, ctv, e⟩, ⟨_, e⟩, fun h1 h2 ⟨p, t, z⟩ st => ⟨p, t, st _ z⟩⟩
theorem lam_makeV {T : List (Addr × Str)} {c P : Addr} {params : Arguments} {body : Expr} {scope : Scope} {pos : Pos} {E : Value → Shared → Prop} {Q : Value → Shared → Prop} (I : Inv X pins σ H s) (TB : LamX.TabB X.base X.mg c P) (hcode : X.env.code = .ref c)
    (hm : (P, X.env.qual ++ "<lambda>") ∈ T) (hu : ∀ p ∈ T, p.1 = P → p.2 = X.env.qual ++ "<lambda>") (hT : Tabs T H) (hdef : defaultsOf params X.env = ([], [])) (hfree : ∀ y ∈ scope.names, y.2 = .free → ∃ c, X.env.cells.lookup y.1 = some c)
    (h : ∀ (f c' : Addr) (H1 : Hp) (s' : Shared), Inv X pins σ H1 s' → ExtN H H1 → (∀ b, H1 b = none → H b = none) → Tabs T H1 → H f = none → H1 f = some (LamO f ⟨X.env.qual ++ "<lambda>", params, body, scope, cloFrom X.env.cells scope.names [], c'⟩) → H1 c' = some (CodeO c' (X.env.qual ++ "<lambda>")) → Q (.ref f) s') :
    wpAny (model X.prog X.w) X.A (eval (.Lambda params body scope pos) X.env) Q E s := by
  obtain ⟨ps, hP, ht, ha⟩ := hT _ hm
  refine PySem.W.kla_eval hdef ?_
  have bP : s.heap.BuiltinsAt X.mg P := TB.bm.keeps I.bk
  have hP' : s.heap.get? P = some { cls := .none, data := .fields ps } := I.hok P _ hP
  cases hc : codeAmong pos ps.toList with
  | none =>
    refine PySem.W.kla_makeFunction (mg := X.mg) (c := c) (P := P) (ps := ps) (closure_ok hfree) I.ok.glob (I.mod.glob.keeps I.bk) hcode (TB.code.keeps I.bk) hP' ht hc TB.gP bP fun c' ctv h' tk hx hge hlt hrec htb => ?_
    obtain ⟨c2, oc, vs, t, e2, hoc, hd, hv⟩ := hrec
    cases e2
    have nC : H c' = none := I.hok.fresh hge
    have I1 := LamX.inv_table (t' := tk) (more := #[rawInt pos.line, rawInt pos.col, .ref c']) (h' := h') I hP (fun b o hb e => hx b o hb e) htb hge ⟨oc, vs, t, hoc, hd, hv⟩
    have hE : ExtN H (upd (upd H P (.tbl (ps ++ #[rawInt pos.line, rawInt pos.col, .ref c']))) c' (CodeO c' (X.env.qual ++ "<lambda>"))) := fun b o e n => by
      rw [upd_ne (ne_of_none e nC), upd_ne (fun z => n ps (Option.some.inj (e.symm.trans (by rw [z]; exact hP))))]
      exact e
    have eL : (ps ++ #[rawInt pos.line, rawInt pos.col, .ref c']).toList = ps.toList ++ [rawInt pos.line, rawInt pos.col, .ref c'] := by simp
    have T1 : Tabs T (upd (upd H P (.tbl (ps ++ #[rawInt pos.line, rawInt pos.col, .ref c']))) c' (CodeO c' (X.env.qual ++ "<lambda>"))) := fun p hp => by
      by_cases hb : p.1 = P
      · rw [hu p hp hb, hb]
        refine ⟨_, by rw [upd_ne (ne_of_none hP nC), upd_same], by rw [eL]; exact PySem.TriplesOk_snoc _ _ _ _ ht, fun p' cv hcv => ?_⟩
        rw [eL] at hcv
        rcases among_app _ ht hcv with z | z
        · obtain ⟨c0, e1, e2⟩ := ha p' cv z
          exact ⟨c0, e1, hE _ _ e2 codeO_ne⟩
        · exact ⟨c', z, upd_same⟩
      · obtain ⟨ps', a1, a2, a3⟩ := hT p hp
        refine ⟨ps', by rw [upd_ne (ne_of_none a1 nC), upd_ne hb]; exact a1, a2, fun p' cv hcv => ?_⟩
        obtain ⟨c0, e1, e2⟩ := a3 p' cv hcv
        exact ⟨c0, e1, hE _ _ e2 codeO_ne⟩
    have nF := I1.hok.fresh (Nat.le_refl _)
    have I2 := inv_lam (F := ⟨X.env.qual ++ "<lambda>", params, body, scope, cloFrom X.env.cells scope.names [], c'⟩) (t' := tk) (pm := (X.mg "__name__").getD .none) (ctv := ctv) I1 rfl
    refine h h'.objs.size c' _ _ I2 (fun b o e n => ?_) (fun b e => upd_none (upd_none (upd_none e))) (T1.ext fun b o e => ?_) (I.hok.fresh (Nat.le_trans hge (Nat.le_of_lt hlt))) upd_same ?_
    · have e1 := hE b o e n
      exact (upd_ne (ne_of_none e1 nF)).trans e1
    · exact (upd_ne (ne_of_none e nF)).trans e
    · exact (upd_ne (Nat.ne_of_lt hlt)).trans upd_same
  | some cv =>
    obtain ⟨c', e, hco⟩ := ha pos cv hc
    subst e
    refine PySem.W.kla_makeFunctionHit (mg := X.mg) (c := c) (P := P) (ps := ps) (closure_ok hfree) I.ok.glob (I.mod.glob.keeps I.bk) hcode (TB.code.keeps I.bk) hP' ht hc bP fun ctv h' tk hx hsz => ?_
    have I1 : Inv X pins σ H { s with heap := h', toks := tk } := I.kept hx
    have nF : H h'.objs.size = none := I1.hok.fresh (Nat.le_refl _)
    have I2 := inv_lam (F := ⟨X.env.qual ++ "<lambda>", params, body, scope, cloFrom X.env.cells scope.names [], c'⟩) (t' := tk) (pm := (X.mg "__name__").getD .none) (ctv := ctv) I1 rfl
    refine h h'.objs.size c' _ _ I2 (fun b o e n => ?_) (fun b e => upd_none e) (hT.ext fun b o e => ?_) nF upd_same ?_
    · exact (upd_ne (ne_of_none e nF)).trans e
    · exact (upd_ne (ne_of_none e nF)).trans e
    · exact (upd_ne (ne_of_none hco nF)).trans hco
end
/-- lambda ..: .. as a value; cl: the cells that it captures -/
def tLamV (T : List (Addr × Str)) (mk : Addr → LF) : TE := fun σ H Q => Tabs T H ∧ ∀ f c' H1, ExtN H H1 → (∀ b, H1 b = none → H b = none) → Tabs T H1 → H f = none → H1 f = some (LamO f (mk c')) → H1 c' = some (CodeO c' (mk c').qual) → Q (.ref f) H1
theorem pe_lamV {X : Cx} {T : List (Addr × Str)} {c P : Addr} {params : Arguments} {body : Expr} {scope : Scope} {pos : Pos} (TB : LamX.TabB X.base X.mg c P) (hcode : X.env.code = .ref c)
    (hm : (P, X.env.qual ++ "<lambda>") ∈ T) (hu : ∀ p ∈ T, p.1 = P → p.2 = X.env.qual ++ "<lambda>") (hdef : defaultsOf params X.env = ([], [])) (hfree : ∀ y ∈ scope.names, y.2 = .free → X.env.scope.names.lookup y.1 = some .cell ∨ X.env.scope.names.lookup y.1 = some .free) :
    PE X (.Lambda params body scope pos) (tLamV T fun c' => ⟨X.env.qual ++ "<lambda>", params, body, scope, cloFrom X.env.cells scope.names [], c'⟩) := by
  refine ⟨fun pins s σ H Q I h => ?_⟩
  obtain ⟨hT, h⟩ := h
  refine lam_makeV I TB hcode hm hu hT hdef (fun y hy e => (hfree y hy e).elim (fun z => I.ok.has _ (.inl z)) fun z => I.ok.has _ (.inr z)) fun f c' H1 s' I1 e1 e2 e3 e4 e5 e6 => ?_
  exact ⟨.ref f, H1, I1, rfl, h f c' H1 e1 e2 e3 e4 e5 e6⟩
section
variable {X : Cx} {pins : List (Addr × Obj)} {σ : L2.St} {H : Hp} {s : Shared}
/-- the cells become known -/
theorem know {cl : List (Str × Addr)} {fr : List Str} {js : List Nat} (I : Inv X pins σ H s) (cp : Caps X cl fr js) (hcl : ∀ p ∈ cl, cl.lookup p.1 = some p.2) : ∃ H2 : Hp, (∀ b, b ∉ cl.map (·.2) → H2 b = H b) ∧ (∀ b ∈ cl.map (·.2), H b = none ∧ ∃ y, X.env.cells.lookup y = some b) ∧ CellsT cl fr (js.map (slotAt σ)) H2 ∧ HOk X.prog X.w H2 s.heap := by
  have C := cells_of I cp
  have mem : ∀ b ∈ cl.map (·.2), ∃ y, cl.lookup y = some b := fun b hb => by
    obtain ⟨⟨y, c⟩, h1, rfl⟩ := List.mem_map.mp hb
    exact ⟨y, hcl _ h1⟩
  have inn : ∀ {y : Str} {b : Addr}, cl.lookup y = some b → b ∈ cl.map (·.2) := fun {y b} e => List.mem_map.mpr ⟨_, PySem.mem_of_lookup e, rfl⟩
  have nonH : ∀ b ∈ cl.map (·.2), H b = none := fun b hb => by
    obtain ⟨y, e⟩ := mem b hb
    exact (C.all y b e).1
  refine ⟨fun b => if b ∈ cl.map (·.2) then some (CelO b ((s.heap.get? b).getD { cls := .none, data := .plain })) else H b, fun b hb => if_neg hb, fun b hb => ⟨nonH b hb, ?_⟩, ⟨C.len, fun y c h => ?_, C.inj, fun i y e => ?_⟩, fun a o e => ?_⟩
  · obtain ⟨y, e⟩ := mem b hb
    exact ⟨y, cp.sub y b e⟩
  · have e := hcl _ h
    obtain ⟨n, v, ob, ho, hd⟩ := C.all y c e
    refine ⟨ob, v, ?_, hd⟩
    show (if c ∈ cl.map (·.2) then some (CelO c ((s.heap.get? c).getD { cls := .none, data := .plain })) else H c) = _
    rw [if_pos (inn e), ho]
    rfl
  · obtain ⟨c, hc, hv⟩ := C.has i y e
    obtain ⟨n, v, ob, ho, hd⟩ := C.all y c hc
    refine ⟨c, ob, hc, ?_, fun v hv' => ?_⟩
    · show (if c ∈ cl.map (·.2) then some (CelO c ((s.heap.get? c).getD { cls := .none, data := .plain })) else H c) = _
      rw [if_pos (inn hc), ho]
      rfl
    · obtain ⟨u, r, ob', ho', hd'⟩ := hv v hv'
      rw [ho] at ho'
      cases ho'
      exact ⟨u, r, hd'⟩
  · have e : (if a ∈ cl.map (·.2) then some (CelO a ((s.heap.get? a).getD { cls := .none, data := .plain })) else H a) = some o := e
    by_cases ha : a ∈ cl.map (·.2)
    · rw [if_pos ha] at e
      cases e
      obtain ⟨y, e⟩ := mem a ha
      obtain ⟨n, v, ob, ho, hd⟩ := C.all y a e
      rw [ho]
      exact ⟨ho, ⟨ob, ho⟩, fun h1 h2 p q => q _ p⟩
    · rw [if_neg ha] at e
      refine (I.hok a o e).stay (fun _ _ _ q => q) (fun b q => ?_) fun b xs q => ?_
      · show (if b ∈ cl.map (·.2) then _ else H b) = _
        rw [if_neg fun z => by rw [nonH b z] at q; cases q]
        exact q
      · show (if b ∈ cl.map (·.2) then _ else H b) = _
        rw [if_neg fun z => by rw [nonH b z] at q; cases q]
        exact q
end
end Lmp
namespace Lmp
variable [Pd.Wd]
open PySem PySem.Spec PyProof.Rows L2 LamX NdefX
end Lmp
/-! LamC -/
set_option Elab.async false
set_option linter.all false
set_option maxRecDepth 100000
set_option maxHeartbeats 4000000
/-! a def that ends, and what its lambdas captured stays known -/
namespace Lmp
variable [Pd.Wd]
open PySem PySem.Spec PyProof.Rows L2 LamX NdefX
/-- a suite that ends by a return, read with the slots as they are at its end -/
structure PRs (X : Cx) (st : List Stmt) (t : (L2.St → VK) → L2.St → Hp → Prop) : Prop where
  run : ∀ (pins : List (Addr × Obj)) (s : Shared) (σ : L2.St) (H : Hp) (R : L2.St → VK), Inv X pins σ H s → t R σ H →
    wpAny (model X.prog X.w) X.A (execs st X.env) (fun f s' => match f with | .ret u => ∃ v σ' H', Inv X pins σ' H' s' ∧ RelV v u ∧ R σ' v H' | _ => False) X.xe s
def noEnds (nx : L2.St → Hp → Prop) : Ends := { nx := nx, rt := fun _ _ => False }
theorem prs_cons {X : Cx} {st : Stmt} {rest : List Stmt} {t : TS} {u : (L2.St → VK) → L2.St → Hp → Prop} (h1 : PS X st t) (h2 : PRs X rest u) : PRs X (st :: rest) (fun R σ H => t (noEnds (u R)) σ H) := by
  refine ⟨fun pins s σ H R I h => ?_⟩
  refine wpAny_execs_cons (thn (h1.run pins s σ H (noEnds (u R)) I h) fun f s1 q => ?_)
  cases f with
  | next =>
    obtain ⟨σ', H', I', q⟩ := q
    exact h2.run pins s1 σ' H' R I' q
  | ret v =>
    obtain ⟨_, _, _, _, _, q⟩ := q
    exact q.elim
  | brk =>
    obtain ⟨_, _, _, q⟩ := q
    exact q.elim
  | cont =>
    obtain ⟨_, _, _, q⟩ := q
    exact q.elim
theorem prs_ret {X : Cx} {e : Expr} {te : TE} {pos : Pos} (he : PE X e te) : PRs X [.Return (some e) pos] (fun R σ H => te σ H (R σ)) := by
  refine ⟨fun pins s σ H R I h => ?_⟩
  refine wpAny_execs_cons (wpAny_Return_some (thn (he.run pins s σ H _ I h) fun v s1 ⟨x, H1, I1, r1, q1⟩ => ⟨x, σ, H1, I1, r1, q1⟩))
/-- a heap in which more is known of what is new -/
theorem un_more {fs : List Addr} {H H' H2 : Hp} {h h' : Heap} {cs : List Addr} (u : Un fs [] H H' h h') (e : ∀ b, b ∉ cs → H2 b = H' b) (n : ∀ b ∈ cs, H' b = none) (hz : ∀ b ∈ cs, h.objs.size ≤ b) : Un fs [] H H2 h h' where
  keep := u.keep
  slot := u.slot
  free := fun b o q hb hx => by
    rw [e b fun hm => by
      have := Heap.lt_size q
      have := hz b hm
      exact absurd (Heap.lt_size q) (Nat.not_lt.mpr this)]
    exact u.free b o q hb hx
  there := u.there
  tups := fun b xs q => by
    have h1 := u.tups b xs q
    rw [e b fun hm => by rw [n b hm] at h1; cases h1]
    exact h1
  frzs := fun b o v q => by
    have h1 := u.frzs b o v q
    rw [e b fun hm => by rw [n b hm] at h1; cases h1]
    exact h1
  tbls := fun b ps q => by
    obtain ⟨more, h1⟩ := u.tbls b ps q
    exact ⟨more, by rw [e b fun hm => by rw [n b hm] at h1; cases h1]; exact h1⟩
/-- THE RULE: a def whose captured cells stay known -/
theorem fn_ofC {CX : CXT} {P : Program} {w : World} {K : PySem.W.Frag} {mg : Str → Option Value} {base : Heap} {k : Nat} {f : Addr} {name qual : Str} {params : Arguments} {body : List Stmt} {scope : Scope} {dV kV doc pm cdv ct oc : Value} {an od : Option Addr}
    {osl : Array (Option Value)} {N ps : List Str} {sp : Sp} (lk : K.lookup f = some ⟨oc, od, .func (PySem.W.fnOf name qual params body scope dV kV doc pm an cdv ct), osl⟩) (hcd : PySem.W.codeIn K cdv qual = true) (S : FnScope N ps scope)
    (len : ∀ vs H Q E, sp vs H Q E → vs.length = ps.length)
    (hbody : ∀ (A : Around) (outer : List Env) (s : Shared) (H : Hp) (vs : List V) (Q : VK) (E : XK), Room k (A.deeper (envOfC qual scope s.heap.objs.size f cdv)) → sp vs H Q E →
      ∃ t cl fr js, PRs (cxOf CX P w K mg base N qual scope f cdv A outer s H E) body t ∧ Caps (cxOf CX P w K mg base N qual scope f cdv A outer s H E) cl fr js ∧ (∀ p ∈ cl, cl.lookup p.1 = some p.2) ∧ (∀ b ∈ cl.map (·.2), s.heap.objs.size ≤ b) ∧
        t (fun σ v H' => ∀ H2 : Hp, (∀ b, b ∉ cl.map (·.2) → H2 b = H' b) → (∀ b ∈ cl.map (·.2), H' b = none) → CellsT cl fr (js.map (slotAt σ)) H2 → Q v H2) (start N vs) H) :
    FnOk P w K mg base CX (k + 1) f (PySem.W.fnOf name qual params body scope dV kV doc pm an cdv ct) ps sp := by
  refine ⟨len, fun A outer s H args us vs Q E hr e0 hb r hsp => ?_⟩
  have hl := len _ _ _ _ hsp
  have KX : K.In s.heap := e0.mod.kin.keeps fun b o e => (e0.bs b o e).1
  have lim : s.heap.NoLimit := e0.mod.nolimit.keeps fun b o e => (e0.bs b o e).1
  have hkind : ∀ y ∈ ps.zip us, scope.names.lookup y.1 = some .local ∨ (scope.names.lookup y.1 = some .cell ∧ ((cellsFrom (s.heap.objs.size + 1) scope.names []).lookup y.1).isSome = true) := fun ⟨n, v⟩ hy => by
    rcases S.par n (List.of_mem_zip hy).1 with q | q
    · exact .inl q
    · exact .inr ⟨q, PySem.W.cellsFrom_some _ _ _ (.inl q)⟩
  refine codeAny_call_function hr.depth (KX _ _ lk) rfl S.co S.gen rfl (PySem.W.codeRec_of KX hcd) (hb _ _ _ _ ?_)
  refine wpAny_newFunctionEnv_cells S.kind hkind fun env he s1 x => ?_
  subst he
  refine ⟨lim.keeps x.toInCall.keep, codeAny_func ?_⟩
  obtain ⟨t, cl, fr, js, ht, cp, hcl, hfr, hq⟩ := hbody A outer s H vs Q E (hr.deeper _) hsp
  have I : Inv (cxOf CX P w K mg base N qual scope f cdv A outer s H E) [] (start N vs) H s1 := inv_start S hr.hd e0 hl r x
  refine wpAny_mono (ht.run [] s1 (start N vs) H _ I hq) (fun fl s' hs => ?_) fun e s' hs => hs
  cases fl with
  | ret u =>
    obtain ⟨v, σ', H', J, rv, q⟩ := hs
    obtain ⟨H2, k1, k2, k3, k4⟩ := know J cp hcl
    exact ⟨v, H2, J.os, J.bare, un_more J.base k1 (fun b hb => (k2 b hb).1) hfr, k4, rv, q H2 k1 (fun b hb => (k2 b hb).1) k3⟩
  | next => exact hs.elim
  | brk => exact hs.elim
  | cont => exact hs.elim
end Lmp
/-! LamD -/
set_option Elab.async false
set_option linter.all false
set_option maxRecDepth 100000
set_option maxHeartbeats 4000000
/-! a lambda with one parameter that has a number as its default, handed to a def and called there without arguments -/
namespace Lmd
variable [Pd.Wd]
open PySem PySem.Spec PyProof.Rows L2 LamX
/-- its scope: captured names, globals, parameters that are none of the maker's names -/
structure LamT (N : List Str) (sc scope : Scope) : Prop where
  kind : scope.kind = .function
  co : scope.isCoroutine = false
  gen : scope.isGenerator = false
  cel : ∀ y ∈ scope.names, y.2 ≠ .cell
  own : ∀ y ∈ scope.names, y.2 = .local → y.1 ∉ N
  free : ∀ y ∈ scope.names, y.2 = .free → sc.names.lookup y.1 = some .cell ∨ sc.names.lookup y.1 = some .free
theorem LamT.has {X : Cx} {scope : Scope} (L : LamT X.N X.env.scope scope) (ok : X.Ok) : ∀ y ∈ scope.names, y.2 = .free → ∃ c, X.env.cells.lookup y.1 = some c := fun y hy e => (L.free y hy e).elim (fun k => ok.has _ (.inl k)) (fun k => ok.has _ (.inr k))
section
variable {X : Cx} {pins : List (Addr × Obj)} {σ : L2.St} {H HZ : Hp} {s s1 : Shared}
end
section
variable {X : Cx}
end
end Lmd
/-! LamV -/
set_option Elab.async false
set_option linter.all false
set_option maxRecDepth 100000
set_option maxHeartbeats 4000000
/-! x(y): a def that calls what it got, y a name that holds a lambda made in this frame -/
namespace Lmp
variable [Pd.Wd]
open PySem PySem.Spec PyProof.Rows L2 LamX NdefX
section
variable {X : Cx} {pins : List (Addr × Obj)} {σ : L2.St} {H : Hp} {s : Shared}
/-- the lambda's words as they are kept -/
abbrev lfOf (X : Cx) (params : Arguments) (body : Expr) (scope : Scope) (c' : Addr) : LF := ⟨X.env.qual ++ "<lambda>", params, body, scope, cloFrom X.env.cells scope.names [], c'⟩
end
end Lmp
/-! LamU -/
set_option Elab.async false
set_option linter.all false
set_option maxRecDepth 100000
set_option maxHeartbeats 4000000
/-! a lambda with one parameter that has a number as its default, kept as a value: its object, and the tuple in which the default lies -/
namespace Lmp
variable [Pd.Wd]
open PySem PySem.Spec PyProof.Rows L2 LamX NdefX
/-- the object at f is the lambda F, its default in the tuple at t -/
def LamDO (f : Addr) (F : LF) (t : Addr) : HO := .ext fun h => ∃ pm ctv doc : Value, h.get? f = some (PySem.W.kdv_obj "<lambda>" F.qual F.params (.expr F.body) F.scope F.cl (.ref t) doc pm F.c ctv)
/-- .. and the tuple is there -/
def LamDT (f : Addr) (F : LF) (i : Int) (H : Hp) : Prop := ∃ (t : Addr) (u : Value), RelV (.int i) u ∧ H f = some (LamDO f F t) ∧ H t = some (CelO t (PySem.W.kdv_tup [u]))
theorem lamDO_at {P : Program} {w : World} {H : Hp} {h : Heap} {f t : Addr} {F : LF} (hok : HOk P w H h) (e : H f = some (LamDO f F t)) : ∃ pm ctv doc : Value, h.get? f = some (PySem.W.kdv_obj "<lambda>" F.qual F.params (.expr F.body) F.scope F.cl (.ref t) doc pm F.c ctv) := (hok f _ e).1
theorem lamDO_ne {f t : Addr} {F : LF} : ∀ ps, LamDO f F t ≠ .tbl ps := fun ps z => by
  unfold LamDO at z
  cases z
theorem LamDT.ext {f : Addr} {F : LF} {i : Int} {H H' : Hp} (l : LamDT f F i H) (e : ExtN H H') : LamDT f F i H' := by
  obtain ⟨t, u, h0, h1, h2⟩ := l
  exact ⟨t, u, h0, e _ _ h1 lamDO_ne, e _ _ h2 fun _ => celO_tbl⟩
section
variable {X : Cx} {pins : List (Addr × Obj)} {σ : L2.St} {H : Hp} {s : Shared}
theorem inv_cel {o : Obj} {t' : Nat} (I : Inv X pins σ H s) (ho : o.isFreed = false := by rfl) : Inv X pins σ (upd H s.heap.objs.size (CelO s.heap.objs.size o)) { s with heap := s.heap.push o, toks := t' } := by
  refine I.laid (a := s.heap.objs.size) (fun b u e => Heap.get?_push_of_some _ e) (Nat.le_refl _) ?_
  have e : (s.heap.push o).get? s.heap.objs.size = some o := Heap.get?_push_size _ ho
  exact ⟨e, ⟨_, e⟩, fun h1 h2 p st => st _ p⟩
theorem inv_lamD {F : LF} {o : Obj} {t : Addr} {t' : Nat} {pm ctv doc : Value} (I : Inv X pins σ H s) (ho : o = PySem.W.kdv_obj "<lambda>" F.qual F.params (.expr F.body) F.scope F.cl (.ref t) doc pm F.c ctv) :
    Inv X pins σ (upd H s.heap.objs.size (LamDO s.heap.objs.size F t)) { s with heap := s.heap.push o, toks := t' } := by
  subst ho
  refine I.laid (a := s.heap.objs.size) (fun b u e => Heap.get?_push_of_some _ e) (Nat.le_refl _) ?_
  have e : (s.heap.push (PySem.W.kdv_obj "<lambda>" F.qual F.params (.expr F.body) F.scope F.cl (.ref t) doc pm F.c ctv)).get? s.heap.objs.size = some (PySem.W.kdv_obj "<lambda>" F.qual F.params (.expr F.body) F.scope F.cl (.ref t) doc pm F.c ctv) := Heap.get?_push_size _ rfl
  exact ⟨⟨pm, ctv, doc, e⟩, ⟨_, e⟩, fun h1 h2 ⟨p, c, d, z⟩ st => ⟨p, c, d, st _ z⟩⟩
/-- the lambda is made, its default in a tuple of its own; both are known from now on -/
theorem lam_makeU {T : List (Addr × Str)} {c P : Addr} {params : Arguments} {body e0 : Expr} {scope : Scope} {pos : Pos} {i : Int} {Q : Value → Shared → Prop} (I : Inv X pins σ H s) (TB : TabB X.base X.mg c P) (hcode : X.env.code = .ref c)
    (hm : (P, X.env.qual ++ "<lambda>") ∈ T) (hu : ∀ p ∈ T, p.1 = P → p.2 = X.env.qual ++ "<lambda>") (hT : Tabs T H) (hdf : params.defaults = [e0]) (hk0 : params.kw_defaults = []) (he0 : PE X e0 (tC (.int i))) (hfree : ∀ y ∈ scope.names, y.2 = .free → ∃ c, X.env.cells.lookup y.1 = some c)
    (h : ∀ (f c' : Addr) (H1 : Hp) (s' : Shared), Inv X pins σ H1 s' → ExtN H H1 → (∀ b, H1 b = none → H b = none) → Tabs T H1 → H f = none → LamDT f (lfOf X params body scope c') i H1 → H1 c' = some (CodeO c' (X.env.qual ++ "<lambda>")) → Q (.ref f) s') :
    wpAny (model X.prog X.w) X.A (eval (.Lambda params body scope pos) X.env) Q X.xe s := by
  refine PySem.W.kdv_lam (by rw [hdf]; rfl) hk0 ?_
  rw [hdf]
  refine PySem.W.kdv_all1 (thn (he0.run pins s σ H (fun v H1 => v = V.int i ∧ H1 = H) I (show V.int i = V.int i ∧ H = H from ⟨rfl, rfl⟩)) fun u s0 ⟨v, H0, I0, rv, ev, eH⟩ => ?_)
  subst ev
  subst eH
  refine PySem.W.kdv_all0 ?_
  rw [makeFunction_eq]
  simp only [List.zip_nil_right, List.filterMap_nil, List.isEmpty_nil, if_true, pure_bind, List.isEmpty_cons, Bool.false_eq_true, if_false]
  refine wpAny_bind (wpAny_newTextTuple ?_)
  have ft : H0 s0.heap.objs.size = none := I0.hok.fresh (Nat.le_refl _)
  have hlt : s0.heap.objs.size < ({ s0 with heap := s0.heap.push (PySem.W.kdv_tup [u]) } : Shared).heap.objs.size := by
    show _ < (s0.heap.push _).objs.size
    rw [Heap.size_push]
    exact Nat.lt_succ_self _
  have I2 : Inv X pins σ (upd H0 s0.heap.objs.size (CelO s0.heap.objs.size (PySem.W.kdv_tup [u]))) { s0 with heap := s0.heap.push (PySem.W.kdv_tup [u]) } := inv_cel I0
  show wpAny _ _ (makeTail _ _ _ _ _ _ (.ref s0.heap.objs.size) _ _ _ _) _ _ { s0 with heap := s0.heap.push (PySem.W.kdv_tup [u]) }
  generalize s0.heap.objs.size = t at ft hlt I2 ⊢
  generalize ({ s0 with heap := s0.heap.push (PySem.W.kdv_tup [u]) } : Shared) = s2 at I2 hlt ⊢
  have x0 : ∀ b o, H0 b = some o → upd H0 t (CelO t (PySem.W.kdv_tup [u])) b = some o := fun b o e => (upd_ne (ne_of_none e ft)).trans e
  have tE : upd H0 t (CelO t (PySem.W.kdv_tup [u])) t = some (CelO t (PySem.W.kdv_tup [u])) := upd_same
  have n0 : ∀ b, upd H0 t (CelO t (PySem.W.kdv_tup [u])) b = none → H0 b = none := fun b e => upd_none e
  have hT2 : Tabs T (upd H0 t (CelO t (PySem.W.kdv_tup [u]))) := hT.ext x0
  generalize upd H0 t (CelO t (PySem.W.kdv_tup [u])) = H2 at I2 x0 tE n0 hT2
  have E02 : ExtN H0 H2 := fun b o e _ => x0 b o e
  obtain ⟨ps, hP, ht, ha⟩ := hT2 _ hm
  have bP : s2.heap.BuiltinsAt X.mg P := TB.bm.keeps I2.bk
  have hP' : s2.heap.get? P = some { cls := .none, data := .fields ps } := I2.hok P _ hP
  cases hc : codeAmong pos ps.toList with
  | none =>
    refine PySem.W.kdv_makeTail (mg := X.mg) (c := c) (P := P) (ps := ps) (closure_ok hfree) I2.ok.glob (I2.mod.glob.keeps I2.bk) hcode (TB.code.keeps I2.bk) hP' ht hc TB.gP bP fun c' ctv doc h' tk hx hge hlt' hrec htb => ?_
    obtain ⟨c2, oc, vs, tq, e2, hoc, hd, hv⟩ := hrec
    cases e2
    have nC : H2 c' = none := I2.hok.fresh hge
    have I1 := inv_table (t' := tk) (more := #[rawInt pos.line, rawInt pos.col, .ref c']) (h' := h') I2 hP (fun b o hb e => hx b o hb e) htb hge ⟨oc, vs, tq, hoc, hd, hv⟩
    have hE : ExtN H2 (upd (upd H2 P (.tbl (ps ++ #[rawInt pos.line, rawInt pos.col, .ref c']))) c' (CodeO c' (X.env.qual ++ "<lambda>"))) := fun b o e n => by
      rw [upd_ne (ne_of_none e nC), upd_ne (fun z => n ps (Option.some.inj (e.symm.trans (by rw [z]; exact hP))))]
      exact e
    have eL : (ps ++ #[rawInt pos.line, rawInt pos.col, .ref c']).toList = ps.toList ++ [rawInt pos.line, rawInt pos.col, .ref c'] := by simp
    have T1 : Tabs T (upd (upd H2 P (.tbl (ps ++ #[rawInt pos.line, rawInt pos.col, .ref c']))) c' (CodeO c' (X.env.qual ++ "<lambda>"))) := fun p hp => by
      by_cases hb : p.1 = P
      · rw [hu p hp hb, hb]
        refine ⟨_, by rw [upd_ne (ne_of_none hP nC), upd_same], by rw [eL]; exact PySem.TriplesOk_snoc _ _ _ _ ht, fun p' cv hcv => ?_⟩
        rw [eL] at hcv
        rcases among_app _ ht hcv with z | z
        · obtain ⟨c0, e1, e2⟩ := ha p' cv z
          exact ⟨c0, e1, hE _ _ e2 codeO_ne⟩
        · exact ⟨c', z, upd_same⟩
      · obtain ⟨ps', a1, a2, a3⟩ := hT2 p hp
        refine ⟨ps', by rw [upd_ne (ne_of_none a1 nC), upd_ne hb]; exact a1, a2, fun p' cv hcv => ?_⟩
        obtain ⟨c0, e1, e2⟩ := a3 p' cv hcv
        exact ⟨c0, e1, hE _ _ e2 codeO_ne⟩
    have nF := I1.hok.fresh (Nat.le_refl _)
    have I3 := inv_lamD (F := lfOf X params body scope c') (t := t) (t' := tk) (pm := (X.mg "__name__").getD .none) (ctv := ctv) (doc := doc) I1 rfl
    have eT := hE _ _ tE fun _ => celO_tbl
    refine h h'.objs.size c' _ _ I3 (fun b o e n => ?_) (fun b e => n0 b (upd_none (upd_none (upd_none e)))) (T1.ext fun b o e => ?_) (n0 _ (I2.hok.fresh (Nat.le_trans hge (Nat.le_of_lt hlt')))) ⟨t, u, rv, upd_same, ?_⟩ ?_
    · have e1 := hE b o (E02 b o e n) n
      exact (upd_ne (ne_of_none e1 nF)).trans e1
    · exact (upd_ne (ne_of_none e nF)).trans e
    · exact (upd_ne (ne_of_none eT nF)).trans eT
    · exact (upd_ne (Nat.ne_of_lt hlt')).trans upd_same
  | some cv =>
    obtain ⟨c', e, hco⟩ := ha pos cv hc
    subst e
    refine PySem.W.kdv_makeTailHit (mg := X.mg) (c := c) (P := P) (ps := ps) (closure_ok hfree) I2.ok.glob (I2.mod.glob.keeps I2.bk) hcode (TB.code.keeps I2.bk) hP' ht hc bP fun ctv doc h' tk hx hsz => ?_
    have I1 : Inv X pins σ H2 { s2 with heap := h', toks := tk } := I2.kept hx
    have nF : H2 h'.objs.size = none := I1.hok.fresh (Nat.le_refl _)
    have I3 := inv_lamD (F := lfOf X params body scope c') (t := t) (t' := tk) (pm := (X.mg "__name__").getD .none) (ctv := ctv) (doc := doc) I1 rfl
    refine h h'.objs.size c' _ _ I3 (fun b o e n => ?_) (fun b e => n0 b (upd_none e)) (hT2.ext fun b o e => ?_) (n0 _ nF) ⟨t, u, rv, upd_same, ?_⟩ ?_
    · exact (upd_ne (ne_of_none (E02 b o e n) nF)).trans (E02 b o e n)
    · exact (upd_ne (ne_of_none e nF)).trans e
    · exact (upd_ne (ne_of_none tE nF)).trans tE
    · exact (upd_ne (ne_of_none hco nF)).trans hco
end
/-- lambda y=n: .. as a value -/
def tLamDV (T : List (Addr × Str)) (mk : Addr → LF) (i : Int) : TE := fun σ H Q => Tabs T H ∧ ∀ f c' H1, ExtN H H1 → (∀ b, H1 b = none → H b = none) → Tabs T H1 → H f = none → LamDT f (mk c') i H1 → H1 c' = some (CodeO c' (mk c').qual) → Q (.ref f) H1
theorem pe_lamDV {X : Cx} {T : List (Addr × Str)} {c P : Addr} {params : Arguments} {body e0 : Expr} {scope : Scope} {pos : Pos} {i : Int} (TB : LamX.TabB X.base X.mg c P) (hcode : X.env.code = .ref c)
    (hm : (P, X.env.qual ++ "<lambda>") ∈ T) (hu : ∀ p ∈ T, p.1 = P → p.2 = X.env.qual ++ "<lambda>") (hdf : params.defaults = [e0]) (hk0 : params.kw_defaults = []) (he0 : PE X e0 (tC (.int i))) (hfree : ∀ y ∈ scope.names, y.2 = .free → X.env.scope.names.lookup y.1 = some .cell ∨ X.env.scope.names.lookup y.1 = some .free) :
    PE X (.Lambda params body scope pos) (tLamDV T (lfOf X params body scope) i) := by
  refine ⟨fun pins s σ H Q I h => ?_⟩
  obtain ⟨hT, h⟩ := h
  refine lam_makeU I TB hcode hm hu hT hdf hk0 he0 (fun y hy e => (hfree y hy e).elim (fun z => I.ok.has _ (.inl z)) fun z => I.ok.has _ (.inr z)) fun f c' H1 s' I1 e1 e2 e3 e4 e5 e6 => ?_
  exact ⟨.ref f, H1, I1, rfl, h f c' H1 e1 e2 e3 e4 e5 e6⟩
end Lmp
/-! LamZ -/
set_option Elab.async false
set_option linter.all false
set_option maxRecDepth 100000
set_option maxHeartbeats 4000000
/-! x(y): y a name that holds a lambda whose captured cells are another's (the running frame's, or the frame's in which a comprehension runs) -/
namespace Lmp
variable [Pd.Wd]
open PySem PySem.Spec PyProof.Rows L2 LamX NdefX
/-- the object at f is the lambda F, with a default or without -/
def LamIs (f : Addr) (F : LF) (d : Option Int) (H : Hp) : Prop := match d with
  | none => H f = some (LamO f F)
  | some i => LamDT f F i H
theorem LamIs.ext {f : Addr} {F : LF} {d : Option Int} {H H' : Hp} (l : LamIs f F d H) (e : ExtN H H') : LamIs f F d H' := by
  cases d with
  | none =>
    refine e _ _ (show H f = some (LamO f F) from l) (fun ps z => ?_)
    unfold LamO at z
    cases z
  | some i => exact LamDT.ext (show LamDT f F i H from l) e
/-- its words at the heap -/
theorem LamIs.fnAt {P : Program} {w : World} {f : Addr} {F : LF} {d : Option Int} {H : Hp} {h : Heap} (l : LamIs f F d H) (ok : HOk P w H h) : PySem.W.FnAt f h := by
  cases d with
  | none =>
    obtain ⟨pm, ctv, ho⟩ := lamO_at ok (show H f = some (LamO f F) from l)
    exact ⟨_, none, _, #[], ho⟩
  | some i =>
    obtain ⟨t, u, _, h1, _⟩ := (show LamDT f F i H from l)
    obtain ⟨pm, ctv, doc, ho⟩ := lamDO_at ok h1
    exact ⟨_, _, _, _, ho⟩
/-- the promise of a lambda that is called without arguments: its captured cells hold ws -/
structure LRun (P : Program) (w : World) (K : PySem.W.Frag) (mg : Str → Option Value) (base : Heap) (k : Nat) (F : LF) (d : Option Int) (fr : List Str) (sp : List (Option V) → XK → Hp → VK → Prop) : Prop where
  run : ∀ (f : Addr) (A : Around) (outer : List Env) (s : Shared) (H : Hp) (ws : List (Option V)) (Q : VK) (E : XK), Room k A → Env0 P w K mg base A outer s H → LamIs f F d H → H F.c = some (CodeO F.c F.qual) →
    CellsAt F.cl fr ws s.heap H → sp ws E H Q → codeAny (model P w) A (.call (.ref f) ⟨[], []⟩) (CR (L2.CX P w) outer P w H s Q E) s
section
variable {P : Program} {w : World} {K : PySem.W.Frag} {mg : Str → Option Value} {base : Heap} {N fr : List Str} {F : LF} {k : Nat} {t : List (Option V) → XK → TE}
theorem lrun_of (S : NScope N [] fr F.scope) (hb : ∀ pm ctv : Value, bindArgs (F.fd pm ctv) ⟨[], []⟩ = pure [])
    (hbody : ∀ (f : Addr) (A : Around) (outer : List Env) (s : Shared) (H : Hp) (ws : List (Option V)) (E : XK), Room k (A.deeper (envF F.nf f s.heap.objs.size)) → ws.length = fr.length → PE (ncx (L2.CX P w) P w K mg base N F.nf f A outer s H E) F.body (t ws E)) :
    LRun P w K mg base (k + 1) F none fr (fun ws E H Q => t ws E (startF N [] ws) H Q) := by
  refine ⟨fun f A outer s H ws Q E hr e0 hf hc C hsp => ?_⟩
  have lim : s.heap.NoLimit := e0.mod.nolimit.keeps fun b o e => (e0.bs b o e).1
  obtain ⟨pm, ctv, ho⟩ := lamO_at e0.hok (show H f = some (LamO f F) from hf)
  refine PySem.W.kla_callFunE hr.depth ho rfl S.co S.gen rfl (codeO_at e0.hok hc) ?_
  rw [hb pm ctv]
  refine wpAny_pure (wpAny_newFunctionEnv S.nocell (fun y hy => absurd hy (by simp)) (fun h₁ hns hsb => ⟨lim.fresh _ hsb, ?_⟩) S.kind)
  show codeAny _ _ (.expr F.body (envF F.nf f s.heap.objs.size)) _ _
  have kp : ∀ b o, s.heap.get? b = some o → h₁.get? b = some o := fun b o e => hsb.extBut b o (Nat.ne_of_lt (Heap.lt_size e)) (Heap.get?_push_of_some _ e)
  have I : Inv (ncx (L2.CX P w) P w K mg base N F.nf f A outer s H E) [] (startF N [] ws) H { s with heap := h₁, toks := s.toks + ([] : List (Str × Value)).length } := inv_startN (ps := []) (us := []) (vs := []) S hr.hd e0 rfl .nil C hns kp
  refine PySem.W.kla_codeExpr (wpAny_mono ((hbody f A outer s H ws E (hr.deeper _) C.len).run [] _ (startF N [] ws) H Q I hsp) (fun v s' hs => ?_) fun e s' hs => hs)
  obtain ⟨w', H', J, rv, q⟩ := hs
  exact ⟨w', H', J.os, J.bare, J.base, J.hok, rv, q⟩
theorem lrun_ofD {y : Str} {i : Int} (S : NScope N [y] fr F.scope) (hb : ∀ (s : Shared) (q : Str) (cl : List (Str × Addr)) (f : Addr) (u pm cv ctv doc : Value), s.heap.get? f = some (PySem.W.kdv_tup [u]) → BindsTo s (PySem.W.kdv_fn "<lambda>" q F.params (.expr F.body) F.scope cl (.ref f) doc pm cv ctv) ⟨[], []⟩ [(y, u)])
    (hbody : ∀ (f : Addr) (A : Around) (outer : List Env) (s : Shared) (H : Hp) (ws : List (Option V)) (E : XK), Room k (A.deeper (envF F.nf f s.heap.objs.size)) → ws.length = fr.length → PE (ncx (L2.CX P w) P w K mg base N F.nf f A outer s H E) F.body (t ws E)) :
    LRun P w K mg base (k + 1) F (some i) fr (fun ws E H Q => t ws E (startF N [.int i] ws) H Q) := by
  refine ⟨fun f A outer s H ws Q E hr e0 hf hc C hsp => ?_⟩
  have lim : s.heap.NoLimit := e0.mod.nolimit.keeps fun b o e => (e0.bs b o e).1
  obtain ⟨tt, u, rv, hf1, hf2⟩ := (show LamDT f F i H from hf)
  obtain ⟨pm, ctv, doc, ho⟩ := lamDO_at e0.hok hf1
  refine PySem.W.kla_callFunE hr.depth ho rfl S.co S.gen rfl (codeO_at e0.hok hc) (hb s _ _ _ _ _ _ _ _ (celO_at e0.hok hf2) _ _ _ _ ?_)
  refine wpAny_newFunctionEnv S.nocell (fun z hz => by rw [List.mem_singleton.mp hz]; exact S.par y (.head _)) (fun h₁ hns hsb => ⟨lim.fresh _ hsb, ?_⟩) S.kind
  show codeAny _ _ (.expr F.body (envF F.nf f s.heap.objs.size)) _ _
  have kp : ∀ b o, s.heap.get? b = some o → h₁.get? b = some o := fun b o e => hsb.extBut b o (Nat.ne_of_lt (Heap.lt_size e)) (Heap.get?_push_of_some _ e)
  have I : Inv (ncx (L2.CX P w) P w K mg base N F.nf f A outer s H E) [] (startF N [.int i] ws) H { s with heap := h₁, toks := s.toks + ([(y, u)] : List (Str × Value)).length } := inv_startN (ps := [y]) (us := [u]) (vs := [.int i]) S hr.hd e0 rfl (.cons rv .nil) C hns kp
  refine PySem.W.kla_codeExpr (wpAny_mono ((hbody f A outer s H ws E (hr.deeper _) C.len).run [] _ (startF N [.int i] ws) H Q I hsp) (fun v s' hs => ?_) fun e s' hs => hs)
  obtain ⟨w', H', J, rv, q⟩ := hs
  exact ⟨w', H', J.os, J.bare, J.base, J.hok, rv, q⟩
end
/-- what the cells hold, untouched by the frames that run -/
theorem cells_un {cl : List (Str × Addr)} {fr : List Str} {ws : List (Option V)} {h h' : Heap} {H H' : Hp} {fs : List Addr} (C : CellsAt cl fr ws h H) (u : Un fs [] H H' h h') : CellsAt cl fr ws h' H' := by
  have kp : ∀ y c, cl.lookup y = some c → ∀ v, h.IsCell c v → h'.IsCell c v := fun y c e v ⟨o, ho, hd⟩ => by
    obtain ⟨sl, q⟩ := u.any ho (C.all y c e).1 (by simp)
    exact ⟨_, q, hd⟩
  refine ⟨C.len, fun y c e => ?_, C.inj, fun i y e => ?_⟩
  · obtain ⟨n, v, z⟩ := C.all y c e
    refine ⟨?_, v, kp y c e v z⟩
    obtain ⟨o, ho, _⟩ := z
    exact u.free c o ho n (by simp)
  · obtain ⟨c, hc, hv⟩ := C.has i y e
    refine ⟨c, hc, fun v ev => ?_⟩
    obtain ⟨u, r, z⟩ := hv v ev
    exact ⟨u, r, kp y c hc _ z⟩
section
variable {X : Cx} {s : Shared} {H : Hp}
/-- y(), in the def that got it -/
theorem pe_actN {CXg : CXT} {Eg : XK} {Ng : List Str} {qg : Str} {sg : Scope} {g f : Addr} {cdg : Value} {F : LF} {d : Option Int} {fr : List Str} {ws : List (Option V)} {sp : List (Option V) → XK → Hp → VK → Prop} {k i : Nat} {a : Str} {pn : List (Addr × Obj)} {xe : Value → Shared → Prop} {W : WX} {E : XK} {p1 p2 : Pos}
    (R : LRun X.prog X.w X.K X.mg X.base k F d fr sp) (C : CellsAt F.cl fr ws s.heap H)
    (tk : Takes ((cxOf CXg X.prog X.w X.K X.mg X.base Ng qg sg g cdg X.A X.stack s H Eg).tr pn xe) W) (hW : ∀ cls d σ' H', E cls d H' → W cls d σ' H') (hr : Room k (X.A.deeper (envOfC qg sg s.heap.objs.size g cdg)))
    (hN : Ng[i]? = some a) (hv : Vis sg a) (hd : (a == ("__debug__" : Str)) = false := by decide) (hcd : (a == ("__classdict__" : Str)) = false := by decide) :
    PE ((cxOf CXg X.prog X.w X.K X.mg X.base Ng qg sg g cdg X.A X.stack s H Eg).tr pn xe) (.Call (.Name a p1) [] [] p2)
      (fun σZ HZ Q => σZ[i]? = some (some (.ref f)) ∧ HZ F.c = some (CodeO F.c F.qual) ∧ LamIs f F d HZ ∧ sp ws E HZ Q) := by
  refine ⟨fun pinsZ sZ σZ HZ Q IZ h => ?_⟩
  obtain ⟨hs, hc, hl, ht⟩ := h
  refine wpAny_Call_Name_kw (thn ((pe_var (pos := p1) (i := i) hN hv hd hcd).run pinsZ sZ σZ HZ (fun v H1 => v = .ref f ∧ H1 = HZ) IZ ⟨.ref f, hs, rfl, rfl⟩) fun u s1 ⟨v, H1, I1, r1, q1⟩ => ?_)
  obtain ⟨ev, eH⟩ := q1
  subst ev
  rw [eH] at I1
  obtain rfl : u = Value.ref f := r1
  refine PySem.W.callWith_F0 (hl.fnAt I1.hok) ?_
  have un : Un (frs X.stack) [] H HZ s.heap s1.heap := I1.base
  have rc := R.run f _ _ s1 HZ ws Q E hr I1.env0 hl hc (cells_un C un) ht
  have hx : Passes (L2.CX X.prog X.w) ((cxOf CXg X.prog X.w X.K X.mg X.base Ng qg sg g cdg X.A X.stack s H Eg).tr pn xe) E := passes_call tk hW
  refine wpAny_call (codeAny_mono rc fun r s' hq => ?_)
  cases r with
  | error e => exact hx pinsZ σZ HZ s1 e s' I1 hq
  | ok fl =>
    cases fl with
    | ret u => exact I1.after hq
    | next => exact False.elim hq
    | brk => exact False.elim hq
    | cont => exact False.elim hq
/-- the cells at cl were known when the context began, and are not its own -/
structure Knows (X : Cx) (cl : List (Str × Addr)) (fr : List Str) (ws : List (Option V)) : Prop where
  at_ : CellsAt cl fr ws X.s_0.heap X.H_0
  nf : ∀ y c, cl.lookup y = some c → c ∉ X.fs
  ne : ∀ y c, cl.lookup y = some c → c ∉ X.ex
/-- x(y), y the slot i -/
def tLamK (X : Cx) (S : List (Str × Addr) → List Str → List (Option V) → Prop) (kk : Nat) (q : Str) (i : Nat) (TT : (XK → Hp → VK → Prop) → Hp → VK → Prop) : TE := fun σ H Q => ∃ (f : Addr) (F : LF) (d : Option Int) (fr : List Str) (ws : List (Option V)) (sp : List (Option V) → XK → Hp → VK → Prop), σ[i]? = some (some (.ref f)) ∧
  LRun X.prog X.w X.K X.mg X.base kk F d fr sp ∧ S F.cl fr ws ∧ F.qual = q ∧ LamIs f F d H ∧ H F.c = some (CodeO F.c F.qual) ∧ TT (fun E H' Q' => LamIs f F d H' ∧ sp ws E H' Q') H Q
theorem pe_lamK {S : List (Str × Addr) → List Str → List (Option V) → Prop} {TT : (XK → Hp → VK → Prop) → Hp → VK → Prop} {x a y q : Str} {g : Addr} {kk i : Nat} {pg : Arguments} {bg : List Stmt} {sg : Scope} {dV kV doc pm cdv ct oc : Value} {an od : Option Addr} {osl : Array (Option Value)} {Ng : List Str} {p ypos pos : Pos}
    (hS : ∀ pins σ H s cl fr ws, Inv X pins σ H s → S cl fr ws → CellsAt cl fr ws s.heap H) (hg : Gl X x) (hm : X.mg x = some (.ref g)) (hk : PySem.W.keepIn X.K (.ref g) = true)
    (lk : X.K.lookup g = some ⟨oc, od, .func (PySem.W.fnOf x x pg bg sg dV kV doc pm an cdv ct), osl⟩) (hcg : PySem.W.codeIn X.K cdv x = true) (hb : L2.Binds X.K (PySem.W.fnOf x x pg bg sg dV kV doc pm an cdv ct) [a] []) (Sg : FnScope Ng [a] sg) (hNg : Ng[0]? = some a) (hva : Vis sg a)
    (hG : GivesTo X Ng x sg g cdv bg a q TT) (hy : PE X (.Name y ypos) (tVar i)) (hr : Room (kk + 1) X.A)
    (hdb : (x == ("__debug__" : Str)) = false := by decide) (hd : (a == ("__debug__" : Str)) = false := by decide) (hcd : (a == ("__classdict__" : Str)) = false := by decide) :
    PE X (.Call (.Name x p) [.Name y ypos] [] pos) (tLamK X S kk q i TT) := by
  refine ⟨fun pins s σ H Q I h => ?_⟩
  obtain ⟨f, F, d, fr, ws, sp, hi, R, hs, hq, hl, hc, h⟩ := h
  subst hq
  refine wpAny_Call_Name_kw (ld_glob I hg hm ?_ hdb)
  refine PySem.W.callWith_K (h₀ := X.base) I.ok.mod.kin hk ?_ (by rfl) (by rfl)
  show wpAny _ _ (spliced ((false, eval (.Name y ypos) X.env) :: backTo pos (starEach [] X.env))) _ _ s
  refine Calls.spliced_cons (thn (hy.run pins s σ H (fun v H1 => v = .ref f ∧ H1 = H) I ⟨.ref f, hi, rfl, rfl⟩) fun u s' ⟨v, H1, I1, r1, ev, eH⟩ => ?_)
  subst ev
  subst eH
  obtain rfl : u = Value.ref f := r1
  refine Calls.spliced_nil ⟨I1.kIn, ?_⟩
  have C := hS pins σ H1 s' _ _ _ I1 hs
  have rc : codeAny (model X.prog X.w) X.A (.call (.ref g) ⟨[.ref f], []⟩) (CR C8.CX0 X.stack X.prog X.w H1 s' Q C8.E0) s' := by
    refine run_ofS (N := Ng) (ps := [a]) (us := [.ref f]) (vs := [.ref f]) lk hcg Sg hr I1.env0 (hb s' [.ref f] I1.kIn rfl) (.cons rfl .nil) rfl fun hr' => ?_
    obtain ⟨t', ht', hq'⟩ := hG f F.c s' H1 Q (fun E H' Q' => LamIs f F d H' ∧ sp ws E H' Q') (fun W pn xe E p1 p2 tk hW => pe_actN (i := 0) R C tk hW hr' hNg hva hd hcd) hc h
    exact ⟨t', ht'.nox, hq'⟩
  refine wpAny_call (codeAny_mono rc fun r s2 hq => ?_)
  cases r with
  | error e => exact (show False from hq).elim
  | ok fl =>
    cases fl with
    | ret u => exact I1.after hq
    | next => exact False.elim hq
    | brk => exact False.elim hq
    | cont => exact False.elim hq
theorem Knows.cells {Y : Cx} {pins : List (Addr × Obj)} {σ : L2.St} {H : Hp} {s : Shared} {cl : List (Str × Addr)} {fr : List Str} {ws : List (Option V)} (k : Knows Y cl fr ws) (I : Inv Y pins σ H s) : CellsAt cl fr ws s.heap H := CellsAt.later k.at_ k.nf k.ne I
end
end Lmp
/-! LamL -/
set_option Elab.async false
set_option linter.all false
set_option maxRecDepth 100000
set_option maxHeartbeats 4000000
/-! a list comprehension whose readings may use what is known of the frame in which it runs (its cells) -/
namespace Lmp
variable [Pd.Wd]
open PySem PySem.Spec PyProof.Rows L2 LamX NdefX
section
variable {X : Cx}
/-- its reading: the parts may speak of the slots at its beginning -/
def tLcK (wi : TI) (g : TG) (tt : L2.St → TT) (te : L2.St → TE) (vs : List Nat) : TE := fun σ H Q => tLc wi g (tt σ) (te σ) vs σ H Q
end
end Lmp
/-! LamE -/
set_option Elab.async false
set_option linter.all false
set_option maxRecDepth 100000
set_option maxHeartbeats 4000000
/-! [x for x in xs if ..] where nothing passes: a fresh empty list -/
namespace Lmp
variable [Pd.Wd]
open PySem PySem.Spec PyProof.Rows L2 LamX NdefX
section
variable {K : PySem.W.Frag} {tl : TE} {j : Nat} {tt : L2.St → TT} {te : L2.St → TE} {σ : L2.St} {H : Hp} {Q : VK} {p : Addr} {xs : List V} {P : Hp → Prop}
/-- P: what every turn keeps -/
theorem lcK_empty (hl : ∀ R : VK, (∀ H1, P H1 → R (.ref p) H1) → tl σ H R) (hs : ∀ H, P H → SqL K H p xs) (ho : ∀ H D, P H → H D = none → P (upd H D (.lst [])))
    (ht : ∀ x ∈ xs, ∀ D H, P H → H D = some (.lst []) → ∀ R : Bool → Hp → Prop, (∀ H', P H' → H' D = some (.lst []) → R false H') → tt σ ((L2.wipe σ [j]).set j (some x)) H R)
    (hq : ∀ D H', P H' → H' D = some (.lst []) → Q (.ref D) H') : tLcK (iList K tl) (gName j) tt te [j] σ H Q := by
  refine hl _ fun H1 h1 => ⟨p, rfl, ⟨xs, hs H1 h1⟩, fun D hD => ?_⟩
  refine ⟨fun i m H' => m = xs.length - i ∧ P H' ∧ H' D = some (.lst []), ⟨_, rfl, ho H1 D h1 hD, upd_same⟩, ?_⟩
  rintro i m H' ⟨rfl, hP, hDl⟩
  by_cases hlt : i < xs.length
  · right
    have hx : xs[i]? = some xs[i] := List.getElem?_eq_getElem hlt
    refine ⟨⟨xs, _, hs H' hP, hx⟩, fun H2 => P H2 ∧ H2 D = some (.lst []), fun H2 ⟨a, b⟩ => ⟨xs.length - (i + 1), by omega, rfl, a, b⟩, fun x H2 ⟨eh, hy⟩ => ?_⟩
    subst eh
    have e := hy xs (hs _ hP)
    rw [hx] at e
    cases e
    refine ⟨(Pd.wipe_set (.head _)).trans (Pd.wipe_idem σ [j]), ?_⟩
    refine ht _ (List.getElem_mem hlt) D _ hP hDl _ fun H3 h3 d3 => ?_
    rw [if_neg (by decide)]
    exact ⟨h3, d3⟩
  · exact .inl ⟨⟨xs, hs H' hP, by omega⟩, hq D H' hP hDl⟩
end
end Lmp
/-! LamR -/
set_option Elab.async false
set_option linter.all false
set_option maxRecDepth 100000
set_option maxHeartbeats 4000000
/-! a lambda of a frame that has ended: its cells stand in the heap's word; the call may raise -/
namespace Lmp
variable [Pd.Wd]
open PySem PySem.Spec PyProof.Rows L2 LamX NdefX
section
variable {P : Program} {w : World} {H H' : Hp} {h h' B : Heap} {cs fs : List Addr}
theorem ub_bck (ok : HOk P w H h) (hc : AllCel H cs) (u : L2.UB fs (hid H cs) H' h B h') : L2.UB fs H (bck H H' cs) h B h' where
  keep := fun b o e n hf => u.keep b o e (by
    unfold hid
    split
    · rfl
    · exact n) hf
  slot := u.slot
  free := fun b o e n => by
    by_cases hb : b ∈ cs
    · obtain ⟨z, hz⟩ := hc b hb
      rw [hz] at n
      cases n
    · rw [bck_ne hb]
      exact u.free b o e (by rw [hid_ne hb]; exact n)
  there := u.there
  tups := fun b xs e => by
    by_cases hb : b ∈ cs
    · rw [bck_in hb]
      exact e
    · rw [bck_ne hb]
      exact u.tups b xs (by rw [hid_ne hb]; exact e)
  frzs := fun b o v e => by
    by_cases hb : b ∈ cs
    · rw [bck_in hb]
      exact e
    · rw [bck_ne hb]
      exact u.frzs b o v (by rw [hid_ne hb]; exact e)
  tbls := fun b ps e => by
    by_cases hb : b ∈ cs
    · obtain ⟨z, hz⟩ := hc b hb
      rw [hz] at e
      exact absurd (Option.some.inj e) celO_tbl
    · rw [bck_ne hb]
      exact u.tbls b ps (by rw [hid_ne hb]; exact e)
theorem hok_bckB (ok : HOk P w H h) (hc : AllCel H cs) (nf : ∀ c ∈ cs, c ∉ fs) (u : L2.UB fs (hid H cs) H' h B h') (ok' : HOk P w H' B) : HOk P w (bck H H' cs) B := fun a o e => by
  have none' : ∀ b ∈ cs, H' b = none := fun b hb => by
    obtain ⟨z, _, hz⟩ := cel_there ok hc hb
    exact u.free b z hz (hid_in hb)
  by_cases ha : a ∈ cs
  · rw [bck_in ha] at e
    obtain ⟨z, h1, h2⟩ := cel_there ok hc ha
    rw [h1] at e
    cases e
    have k := u.keep a z h2 (hid_in ha) (nf a ha)
    exact ⟨k, ⟨z, k⟩, fun h1 h2 p q => q _ p⟩
  · rw [bck_ne ha] at e
    refine (ok' a o e).stay (fun _ _ _ q => q) (fun b q => ?_) fun b xs q => ?_
    · by_cases hb : b ∈ cs
      · rw [none' b hb] at q
        cases q
      · rw [bck_ne hb]
        exact q
    · by_cases hb : b ∈ cs
      · rw [none' b hb] at q
        cases q
      · rw [bck_ne hb]
        exact q
end
section
variable {P : Program} {w : World} {K : PySem.W.Frag} {mg : Str → Option Value} {base : Heap} {cl : List (Str × Addr)} {fr : List Str} {ws : List (Option V)} {H : Hp} {h : Heap} {f : Addr} {F : LF} {d : Option Int} {k : Nat} {sp : List (Option V) → XK → Hp → VK → Prop}
theorem not_cell (ok : HOk P w H h) (C : CellsT cl fr ws H) {a : Addr} {o : Obj} (ho : h.get? a = some o) (hd : ∀ v, o.data ≠ .cell v) : a ∉ cl.map (·.2) := fun hm => by
  obtain ⟨⟨y, b⟩, hb, e⟩ := List.mem_map.mp hm
  have e : b = a := e
  subst e
  obtain ⟨o2, v, h1, h2⟩ := C.all y b hb
  have h3 := celO_at ok h1
  rw [ho] at h3
  cases h3
  exact hd v h2
/-- a lambda's objects are none of the cells -/
theorem lamIs_hid (ok : HOk P w H h) (C : CellsT cl fr ws H) (l : LamIs f F d H) : LamIs f F d (hid H (cl.map (·.2))) := by
  cases d with
  | none =>
    have e : H f = some (LamO f F) := l
    obtain ⟨pm, ctv, ho⟩ := lamO_at ok e
    show hid H (cl.map (·.2)) f = some (LamO f F)
    rw [hid_ne (not_cell ok C ho fun v z => nomatch z)]
    exact e
  | some i =>
    obtain ⟨t, u, r, h1, h2⟩ := (show LamDT f F i H from l)
    obtain ⟨pm, ctv, doc, ho⟩ := lamDO_at ok h1
    have h3 := celO_at ok h2
    refine ⟨t, u, r, ?_, ?_⟩
    · rw [hid_ne (not_cell ok C ho fun v z => nomatch z)]
      exact h1
    · rw [hid_ne (not_cell ok C h3 fun v z => nomatch z)]
      exact h2
theorem code_hid {c : Addr} {q : Str} (ok : HOk P w H h) (C : CellsT cl fr ws H) (l : H c = some (CodeO c q)) : hid H (cl.map (·.2)) c = some (CodeO c q) := by
  obtain ⟨⟨oc, vs, t, hoc, hdc, hvc⟩, _, _⟩ := ok c _ l
  rw [hid_ne (not_cell ok C hoc fun v z => by rw [hdc] at z; cases z)]
  exact l
/-- the call of such a lambda -/
theorem LRun.ended (R : LRun P w K mg base k F d fr sp) {A : Around} {outer : List Env} {s : Shared} {Q : VK} {E : XK} (hr : Room k A) (e0 : Env0 P w K mg base A outer s H) (hf : LamIs f F d H) (hc : H F.c = some (CodeO F.c F.qual)) (C : CellsT F.cl fr ws H)
    (h : sp ws (fun cls dd H' => (∀ c ∈ F.cs, H' c = none) → E cls dd (bck H H' F.cs)) (hid H F.cs) (fun v H' => (∀ c ∈ F.cs, H' c = none) → Q v (bck H H' F.cs))) : codeAny (model P w) A (.call (.ref f) ⟨[], []⟩) (CR (L2.CX P w) outer P w H s Q E) s := by
  have ac := C.allCel
  have nf : ∀ c ∈ F.cs, c ∉ frs outer := fun c hm hz => by
    obtain ⟨o, q⟩ := ac c hm
    rw [e0.frf c hz] at q
    cases q
  have hidn : ∀ b, H b = none → hid H F.cs b = none := fun b q => by
    unfold hid
    split
    · rfl
    · exact q
  have e1 : Env0 P w K mg base A outer s (hid H F.cs) := ⟨e0.frames, e0.mod, fun b o e => ⟨(e0.bs b o e).1, hidn b (e0.bs b o e).2⟩, e0.bsz, e0.funs, fun b hb => hidn b (e0.frf b hb), hok_hid e0.hok ac, e0.bare⟩
  refine codeAny_mono (R.run f A outer s (hid H F.cs) ws _ _ hr e1 (lamIs_hid e0.hok C hf) (code_hid e0.hok C hc) (C.cellsAt e0.hok) h) fun r s' hq => ?_
  cases r with
  | error e =>
    obtain ⟨a, B, H', cls, dd, e2, fl, ok', ub, na, os, ag, q⟩ := hq
    have none' : ∀ c ∈ F.cs, H' c = none := fun c hm => by
      obtain ⟨z, _, hz⟩ := cel_there e0.hok ac hm
      exact ub.free c z hz (hid_in hm)
    have nca : a ∉ F.cs := fun hm => by
      obtain ⟨z, _, hz⟩ := cel_there e0.hok ac hm
      have := ub.keep a z hz (hid_in hm) (nf a hm)
      rw [fl.2.1] at this
      cases this
    exact ⟨a, B, bck H H' F.cs, cls, dd, e2, fl, hok_bckB e0.hok ac nf ub ok', ub_bck e0.hok ac ub, by rw [bck_ne nca]; exact na, os, ag, q none'⟩
  | ok fl =>
    cases fl with
    | ret u =>
      obtain ⟨w', H', os, bare, un, ok', rv, q⟩ := hq
      have none' : ∀ c ∈ F.cs, H' c = none := fun c hm => by
        obtain ⟨z, _, hz⟩ := cel_there e0.hok ac hm
        exact un.free c z hz (hid_in hm) (by simp)
      exact ⟨w', bck H H' F.cs, os, bare, un_bck e0.hok ac un, hok_bck e0.hok ac nf un ok', rv, q none'⟩
    | next => exact False.elim hq
    | brk => exact False.elim hq
    | cont => exact False.elim hq
end
end Lmp
/-! LamF -/
set_option Elab.async false
set_option linter.all false
set_option maxRecDepth 100000
set_option maxHeartbeats 4000000
/-! x(y): y a name that holds a lambda of a frame that has ended -/
namespace Lmp
variable [Pd.Wd]
open PySem PySem.Spec PyProof.Rows L2 LamX NdefX
/-- what the call of the lambda wants -/
def actE (f : Addr) (F : LF) (d : Option Int) (fr : List Str) (ws : List (Option V)) (sp : List (Option V) → XK → Hp → VK → Prop) : XK → Hp → VK → Prop := fun E HZ Q => LamIs f F d HZ ∧ CellsT F.cl fr ws HZ ∧ sp ws (fun cls dd H' => (∀ c ∈ F.cs, H' c = none) → E cls dd (bck HZ H' F.cs)) (hid HZ F.cs) (fun v H' => (∀ c ∈ F.cs, H' c = none) → Q v (bck HZ H' F.cs))
section
variable {X : Cx} {s : Shared} {H : Hp}
/-- y(), in the def that got it -/
theorem pe_actE {CXg : CXT} {Eg : XK} {Ng : List Str} {qg : Str} {sg : Scope} {g f : Addr} {cdg : Value} {F : LF} {d : Option Int} {fr : List Str} {ws : List (Option V)} {sp : List (Option V) → XK → Hp → VK → Prop} {k i : Nat} {a : Str} {pn : List (Addr × Obj)} {xe : Value → Shared → Prop} {W : WX} {E : XK} {p1 p2 : Pos}
    (R : LRun X.prog X.w X.K X.mg X.base k F d fr sp) 
    (tk : Takes ((cxOf CXg X.prog X.w X.K X.mg X.base Ng qg sg g cdg X.A X.stack s H Eg).tr pn xe) W) (hW : ∀ cls d σ' H', E cls d H' → W cls d σ' H') (hr : Room k (X.A.deeper (envOfC qg sg s.heap.objs.size g cdg)))
    (hN : Ng[i]? = some a) (hv : Vis sg a) (hd : (a == ("__debug__" : Str)) = false := by decide) (hcd : (a == ("__classdict__" : Str)) = false := by decide) :
    PE ((cxOf CXg X.prog X.w X.K X.mg X.base Ng qg sg g cdg X.A X.stack s H Eg).tr pn xe) (.Call (.Name a p1) [] [] p2)
      (fun σZ HZ Q => σZ[i]? = some (some (.ref f)) ∧ HZ F.c = some (CodeO F.c F.qual) ∧ LamIs f F d HZ ∧ CellsT F.cl fr ws HZ ∧ sp ws (fun cls dd H' => (∀ c ∈ F.cs, H' c = none) → E cls dd (bck HZ H' F.cs)) (hid HZ F.cs) (fun v H' => (∀ c ∈ F.cs, H' c = none) → Q v (bck HZ H' F.cs))) := by
  refine ⟨fun pinsZ sZ σZ HZ Q IZ h => ?_⟩
  obtain ⟨hs, hc, hl, C, ht⟩ := h
  refine wpAny_Call_Name_kw (thn ((pe_var (pos := p1) (i := i) hN hv hd hcd).run pinsZ sZ σZ HZ (fun v H1 => v = .ref f ∧ H1 = HZ) IZ ⟨.ref f, hs, rfl, rfl⟩) fun u s1 ⟨v, H1, I1, r1, q1⟩ => ?_)
  obtain ⟨ev, eH⟩ := q1
  subst ev
  rw [eH] at I1
  obtain rfl : u = Value.ref f := r1
  refine PySem.W.callWith_F0 (hl.fnAt I1.hok) ?_
  have rc := R.ended hr I1.env0 hl hc C ht
  have hx : Passes (L2.CX X.prog X.w) ((cxOf CXg X.prog X.w X.K X.mg X.base Ng qg sg g cdg X.A X.stack s H Eg).tr pn xe) E := passes_call tk hW
  refine wpAny_call (codeAny_mono rc fun r s' hq => ?_)
  cases r with
  | error e => exact hx pinsZ σZ HZ s1 e s' I1 hq
  | ok fl =>
    cases fl with
    | ret u => exact I1.after hq
    | next => exact False.elim hq
    | brk => exact False.elim hq
    | cont => exact False.elim hq
/-- x(y), y the slot i -/
def tLamE (X : Cx) (kk : Nat) (q : Str) (i : Nat) (TT : (XK → Hp → VK → Prop) → Hp → VK → Prop) : TE := fun σ H Q => ∃ (f : Addr) (F : LF) (d : Option Int) (fr : List Str) (ws : List (Option V)) (sp : List (Option V) → XK → Hp → VK → Prop), σ[i]? = some (some (.ref f)) ∧
  LRun X.prog X.w X.K X.mg X.base kk F d fr sp ∧ F.qual = q ∧ LamIs f F d H ∧ H F.c = some (CodeO F.c F.qual) ∧ CellsT F.cl fr ws H ∧ TT (actE f F d fr ws sp) H Q
theorem pe_lamE {TT : (XK → Hp → VK → Prop) → Hp → VK → Prop} {x a y q : Str} {g : Addr} {kk i : Nat} {pg : Arguments} {bg : List Stmt} {sg : Scope} {dV kV doc pm cdv ct oc : Value} {an od : Option Addr} {osl : Array (Option Value)} {Ng : List Str} {p ypos pos : Pos}
    (hg : Gl X x) (hm : X.mg x = some (.ref g)) (hk : PySem.W.keepIn X.K (.ref g) = true)
    (lk : X.K.lookup g = some ⟨oc, od, .func (PySem.W.fnOf x x pg bg sg dV kV doc pm an cdv ct), osl⟩) (hcg : PySem.W.codeIn X.K cdv x = true) (hb : L2.Binds X.K (PySem.W.fnOf x x pg bg sg dV kV doc pm an cdv ct) [a] []) (Sg : FnScope Ng [a] sg) (hNg : Ng[0]? = some a) (hva : Vis sg a)
    (hG : GivesTo X Ng x sg g cdv bg a q TT) (hy : PE X (.Name y ypos) (tVar i)) (hr : Room (kk + 1) X.A)
    (hdb : (x == ("__debug__" : Str)) = false := by decide) (hd : (a == ("__debug__" : Str)) = false := by decide) (hcd : (a == ("__classdict__" : Str)) = false := by decide) :
    PE X (.Call (.Name x p) [.Name y ypos] [] pos) (tLamE X kk q i TT) := by
  refine ⟨fun pins s σ H Q I h => ?_⟩
  obtain ⟨f, F, d, fr, ws, sp, hi, R, hq, hl, hc, C, h⟩ := h
  subst hq
  refine wpAny_Call_Name_kw (ld_glob I hg hm ?_ hdb)
  refine PySem.W.callWith_K (h₀ := X.base) I.ok.mod.kin hk ?_ (by rfl) (by rfl)
  show wpAny _ _ (spliced ((false, eval (.Name y ypos) X.env) :: backTo pos (starEach [] X.env))) _ _ s
  refine Calls.spliced_cons (thn (hy.run pins s σ H (fun v H1 => v = .ref f ∧ H1 = H) I ⟨.ref f, hi, rfl, rfl⟩) fun u s' ⟨v, H1, I1, r1, ev, eH⟩ => ?_)
  subst ev
  subst eH
  obtain rfl : u = Value.ref f := r1
  refine Calls.spliced_nil ⟨I1.kIn, ?_⟩
  have rc : codeAny (model X.prog X.w) X.A (.call (.ref g) ⟨[.ref f], []⟩) (CR C8.CX0 X.stack X.prog X.w H1 s' Q C8.E0) s' := by
    refine run_ofS (N := Ng) (ps := [a]) (us := [.ref f]) (vs := [.ref f]) lk hcg Sg hr I1.env0 (hb s' [.ref f] I1.kIn rfl) (.cons rfl .nil) rfl fun hr' => ?_
    obtain ⟨t', ht', hq'⟩ := hG f F.c s' H1 Q (actE f F d fr ws sp) (fun W pn xe E p1 p2 tk hW => pe_actE (i := 0) R tk hW hr' hNg hva hd hcd) hc h
    exact ⟨t', ht'.nox, hq'⟩
  refine wpAny_call (codeAny_mono rc fun r s2 hq => ?_)
  cases r with
  | error e => exact (show False from hq).elim
  | ok fl =>
    cases fl with
    | ret u => exact I1.after hq
    | next => exact False.elim hq
    | brk => exact False.elim hq
    | cont => exact False.elim hq
end
end Lmp
/-! LamH -/
set_option Elab.async false
set_option linter.all false
set_option maxRecDepth 100000
set_option maxHeartbeats 4000000
/-! lists of lambdas: a display, + and what they hold -/
namespace Lmp
variable [Pd.Wd]
open PySem PySem.Spec PyProof.Rows L2 LamX NdefX
/-- a lambda's words by the address of its code object, its default -/
abbrev LW := (Addr → LF) × Option Int
def tLW (T : List (Addr × Str)) (W : LW) : TE := match W.2 with
  | none => tLamV T W.1
  | some i => tLamDV T W.1 i
def taLW (T : List (Addr × Str)) : List LW → TA
  | [] => tNil
  | W :: r => tCons (tLW T W) (taLW T r)
/-- the values are such lambdas, in this order -/
inductive Lams (H : Hp) : List LW → List V → Prop where
  | nil : Lams H [] []
  | cons {W : LW} {r : List LW} {f c' : Addr} {vs : List V} : LamIs f (W.1 c') W.2 H → H c' = some (CodeO c' (W.1 c').qual) → Lams H r vs → Lams H (W :: r) (.ref f :: vs)
section
variable {T : List (Addr × Str)} {H H' : Hp} {Ws Ws' : List LW} {vs vs' : List V} {W : LW} {σ : L2.St}
theorem Lams.ext (l : Lams H Ws vs) (e : ExtN H H') : Lams H' Ws vs := by
  induction l with
  | nil => exact .nil
  | cons h1 h2 _ ih => exact .cons (h1.ext e) (e _ _ h2 codeO_ne) ih
theorem Lams.app (l : Lams H Ws vs) (l' : Lams H Ws' vs') : Lams H (Ws ++ Ws') (vs ++ vs') := by
  induction l with
  | nil => exact l'
  | cons h1 h2 _ ih => exact .cons h1 h2 ih
theorem Lams.length (l : Lams H Ws vs) : vs.length = Ws.length := by
  induction l with
  | nil => rfl
  | cons _ _ _ ih => rw [List.length_cons, List.length_cons, ih]
/-- each item is one of the lambdas -/
theorem Lams.mem (l : Lams H Ws vs) {v : V} (h : v ∈ vs) : ∃ W ∈ Ws, ∃ f c', v = .ref f ∧ LamIs f (W.1 c') W.2 H ∧ H c' = some (CodeO c' (W.1 c').qual) := by
  induction l with
  | nil => cases h
  | @cons W r f c' vs h1 h2 _ ih =>
    rcases List.mem_cons.mp h with e | h
    · exact ⟨W, .head _, f, c', e, h1, h2⟩
    · obtain ⟨W', hW, q⟩ := ih h
      exact ⟨W', .tail _ hW, q⟩
theorem extN_trans {H1 H2 H3 : Hp} (a : ExtN H1 H2) (b : ExtN H2 H3) : ExtN H1 H3 := fun x o e n => b x o (a x o e n) n
theorem extN_own {p : Addr} {o : HO} (h : H p = none) : ExtN H (upd H p o) := fun b u e _ => (upd_ne (ne_of_none e h)).trans e
theorem lw_run {Q : VK} (hT : Tabs T H) (hc : ∀ c', (W.1 c').c = c') (k : ∀ f c' H1, ExtN H H1 → (∀ b, H1 b = none → H b = none) → Tabs T H1 → LamIs f (W.1 c') W.2 H1 → H1 c' = some (CodeO c' (W.1 c').qual) → Q (.ref f) H1) : tLW T W σ H Q := by
  obtain ⟨mk, d⟩ := W
  cases d with
  | none => exact ⟨hT, fun f c' H1 e1 e2 e3 _ e5 e6 => k f c' H1 e1 e2 e3 e5 e6⟩
  | some i => exact ⟨hT, fun f c' H1 e1 e2 e3 _ e5 e6 => k f c' H1 e1 e2 e3 e5 e6⟩
theorem taLW_run : ∀ (Ws : List LW) {H : Hp} {Q : List V → Hp → Prop}, Tabs T H → (∀ W ∈ Ws, ∀ c', (W.1 c').c = c') → (∀ vs H1, ExtN H H1 → (∀ b, H1 b = none → H b = none) → Tabs T H1 → Lams H1 Ws vs → Q vs H1) → taLW T Ws σ H Q
  | [], H, Q, hT, _, k => k [] H (ExtN.refl H) (fun _ h => h) hT .nil
  | W :: r, H, Q, hT, hc, k => by
    refine lw_run hT (hc W (.head _)) fun f c' H1 e1 e2 e3 l1 l2 => ?_
    refine taLW_run r e3 (fun W' h => hc W' (.tail _ h)) fun vs H2 g1 g2 g3 g4 => ?_
    exact k _ H2 (extN_trans e1 g1) (fun b h => e2 b (g2 b h)) g3 (.cons (l1.ext g1) (g1 _ _ l2 codeO_ne) g4)
/-- [lambda .., ..] -/
theorem lst_run {Q : VK} (hT : Tabs T H) (hc : ∀ W ∈ Ws, ∀ c', (W.1 c').c = c') (hz : Ws.length ≤ sizeLine) (k : ∀ p vs H1, ExtN H H1 → (∀ b, H1 b = none → H b = none) → Tabs T H1 → H p = none → H1 p = some (.lst vs) → Lams H1 Ws vs → Q (.ref p) H1) : tLst (taLW T Ws) σ H Q := by
  refine taLW_run Ws hT hc fun vs H1 e1 e2 e3 e4 => ⟨by rw [e4.length]; exact hz, fun p hp => ?_⟩
  refine k p vs _ (extN_trans e1 (extN_own hp)) (fun b h => e2 b (upd_none h)) (e3.ext fun b o e => (upd_ne (ne_of_none e hp)).trans e) (e2 p hp) upd_same (e4.ext (extN_own hp))
/-- x + [lambda .., ..], x a name -/
theorem cat_run {K : PySem.W.Frag} {i : Nat} {l : Addr} {Q : VK} (hT : Tabs T H) (hi : σ[i]? = some (some (.ref l))) (hl : H l = some (.lst vs)) (hL : Lams H Ws vs) (hc : ∀ W ∈ Ws', ∀ c', (W.1 c').c = c') (hz : Ws.length + Ws'.length ≤ sizeLine)
    (k : ∀ p vs' H1, ExtN H H1 → (∀ b, H1 b = none → H b = none) → Tabs T H1 → H p = none → H1 p = some (.lst vs') → Lams H1 (Ws ++ Ws') vs' → Q (.ref p) H1) : tOp (Pd.rAddX K) (tVar i) (tLst (taLW T Ws')) σ H Q := by
  refine ⟨_, hi, lst_run hT hc (by omega) fun p vs' H1 e1 e2 e3 n4 e5 e6 => ?_⟩
  have hl1 : H1 l = some (.lst vs) := e1 _ _ hl fun _ z => nomatch z
  refine .inr (.inr (.inr ⟨l, p, vs, vs', rfl, rfl, hl1, e5, by rw [hL.length, e6.length]; exact hz, fun q hq => ?_⟩))
  have L2 : Lams H1 (Ws ++ Ws') (vs ++ vs') := (hL.ext e1).app e6
  exact k q _ _ (extN_trans e1 (extN_own hq)) (fun b h => e2 b (upd_none h)) (e3.ext fun b o e => (upd_ne (ne_of_none e hq)).trans e) (e2 q hq) upd_same (L2.ext (extN_own hq))
theorem LamIs.put {f l : Addr} {F : LF} {d : Option Int} {xs : List V} {o : HO} (h : LamIs f F d H) (hl : H l = some (.lst xs)) : LamIs f F d (upd H l o) := by
  have ne : ∀ {b : Addr} {u : HO}, H b = some u → u ≠ .lst xs → b ≠ l := fun e n z => by
    subst z
    rw [hl] at e
    exact n (Option.some.inj e).symm
  cases d with
  | none =>
    have e : H f = some (LamO f F) := h
    refine (upd_ne (ne e fun z => ?_)).trans e
    unfold LamO at z
    cases z
  | some i =>
    obtain ⟨t, u, r, h1, h2⟩ := (show LamDT f F i H from h)
    refine ⟨t, u, r, (upd_ne (ne h1 fun z => ?_)).trans h1, (upd_ne (ne h2 fun z => ?_)).trans h2⟩
    · unfold LamDO at z
      cases z
    · unfold CelO at z
      cases z
theorem Lams.put {l : Addr} {xs : List V} {o : HO} (h : Lams H Ws vs) (hl : H l = some (.lst xs)) : Lams (upd H l o) Ws vs := by
  induction h with
  | nil => exact .nil
  | cons h1 h2 _ ih =>
    refine .cons (h1.put hl) ((upd_ne fun z => ?_).trans h2) ih
    subst z
    rw [hl] at h2
    have z := Option.some.inj h2
    unfold CodeO at z
    cases z
theorem Tabs.put {l : Addr} {xs : List V} {o : HO} (h : Tabs T H) (hl : H l = some (.lst xs)) : Tabs T (upd H l o) := fun p hp => by
  obtain ⟨ps, a1, a2, a3⟩ := h p hp
  refine ⟨ps, (upd_ne fun z => ?_).trans a1, a2, fun pos cv hcv => ?_⟩
  · rw [z, hl] at a1
    cases a1
  · obtain ⟨c0, e1, e2⟩ := a3 pos cv hcv
    refine ⟨c0, e1, (upd_ne fun z => ?_).trans e2⟩
    rw [z, hl] at e2
    have z := Option.some.inj e2
    unfold CodeO at z
    cases z
end
end Lmp
/-! Tx0 -/
set_option Elab.async false
set_option linter.all false
set_option maxRecDepth 100000
set_option maxHeartbeats 4000000
/-! texts of halls: pure -/
namespace Pd
variable [Pd.Wd]
open PySem PySem.Spec PyProof.Rows L2
/-- pieces, with c between -/
def gl (c : Nat) : List (List Nat) → List Nat
  | [] => []
  | [x] => x
  | x :: y :: r => x ++ c :: gl c (y :: r)
def St' (l : List Nat) : Str := ⟨l.toArray⟩
end Pd
/-! Tx1 -/
set_option Elab.async false
set_option linter.all false
set_option maxRecDepth 100000
set_option maxHeartbeats 4000000
/-! the rows of a text -/
namespace Pd
variable [Pd.Wd]
open PySem PySem.Spec PyProof.Rows L2
/-- a row: its kind, two numbers, a sign -/
structure Rw where
  k : Nat
  a : Nat
  b : Nat
  s : Option Sg
def kindC : Nat → List Nat
  | 0 => [104, 97, 108, 108]
  | 1 => [119, 97, 108, 108]
  | 2 => [100, 111, 111, 114]
  | _ => [97, 116]
structure Rw.Ok (r : Rw) : Prop where
  a : r.a < 10
  b : r.b < 10
  s : (r.k = 0 ∧ r.s = none) ∨ (r.k = 1 ∧ (r.s = some .h ∨ r.s = some .v)) ∨ (r.k = 2 ∧ ∃ g, Way g ∧ r.s = some g) ∨ (r.k = 3 ∧ r.s = none)
def sgC : Option Sg → List (List Nat)
  | none => []
  | some g => [[g.code]]
def Rw.words (r : Rw) : List (List Nat) := kindC r.k :: [48 + r.a] :: [48 + r.b] :: sgC r.s
def Rw.line (r : Rw) : List Nat := gl 32 r.words
def Rw.thing (r : Rw) : PyData := .tuple ([.int r.a, .int r.b] ++ (match r.s with
  | none => []
  | some g => [sg g]))
theorem Rw.Ok.k4 {r : Rw} (o : r.Ok) : r.k < 4 := by
  rcases o.s with h | h | h | h <;> omega
/-- what the rows of one kind tell -/
def thingsK (rs : List Rw) (k : Nat) : List PyData := (rs.filter fun r => r.k == k).map Rw.thing
end Pd
/-! SemP -/
set_option Elab.async false
set_option linter.all false
set_option maxRecDepth 100000
set_option maxHeartbeats 4000000
namespace Pd
variable [Pd.Wd]
open PySem PySem.Spec PyProof.Rows L2 PySem.W
local macro_rules | `(tactic| walk_at "ed") => `(tactic| repeat' (first
  | with_reducible (first
    | exact ed_int | exact ed_str | exact ed_bl | exact ed_non
    | exact ea_nil | refine' ea_cons ?_ ?_
    | refine' ed_isi ?_ ?_ | refine' ed_isi2 ?_ ?_ ?_
    | refine' ed_andV ?_ (fun _ => ?_) | refine' ed_orV ?_ (fun _ => ?_) | refine' ed_notV ?_
    | refine' ed_chain ?_ ?_ ?_ (fun _ => ⟨?_, ?_⟩)
    | refine' ed_tup ?_ ?_ | refine' ed_lst ?_ ?_
    | refine' et_not ?_ | refine' et_and ?_ (fun _ => ?_) | refine' et_or ?_ (fun _ => ?_) | exact et_yes
    | refine' et_test ?_ | refine' et_B ?_
    | refine' ed_op ?_ ?_ ?_
    | refine' ed_cb ?_ ?_)
  | exact ed_var rfl
  | exact kit_tt | exact kit_ii | exact kit_ib | exact kit_ll | exact kit_lt | exact kit_tl
  | exact r2_addI | exact r2_subI | exact r2_lt | exact r2_le | exact r2_gt | exact r2_ge | exact r2_isN | exact r2_notN
  | exact rc_lenT | exact rc_lenL | exact rc_intB | exact rc_tupL
  | with_reducible (first | refine' r2_eq ?_ ?_ | refine' r2_ne ?_ ?_)
  | exact sh_int _ | exact sh_sg _ | exact sh_cell _ | exact sh_edge _ | exact sh_pair _ | exact sh_str _ (by decide +kernel)
  | exact r2_ixT rfl | exact r2_ixL rfl
  | refine' ed_tup ?_ ?_
  | (show List.length _ ≤ 100000; simp; done)))
/-! ### figures, rows, what they tell -/
def wordD (l : List Nat) : PyData := .str (St' l)
theorem Rw.len (r : Rw) : (r.words.map wordD).length = match r.s with | none => 3 | some _ => 4 := by obtain ⟨k, a, b, s⟩ := r; cases s <;> rfl
section
variable {K : PySem.W.Frag} {w : World} {ρ : Rho} {ta tb tc te tk : TE}
theorem KDct.ns {a : Addr} {z : Str} {v : V} (h : KDct K w a z v) : ∃ u, PySem.W.nsIn K a z = some (some u) := by
  obtain ⟨es, n, u, h1, h2, h3, _⟩ := h
  exact ⟨u, h3⟩
/-- the facts of the module's tables -/
structure Tabs (K : PySem.W.Frag) (w : World) (aKINDS aSIGNS : Addr) : Prop where
  kinds : ∀ H : Hp, SqT K H aKINDS [.str "hall", .str "wall", .str "door", .str "at"]
  tk : ∃ o, K.lookup aKINDS = some o ∧ o.cls = .type "tuple" ∧ o.dict = none
  signs : ∃ es n, KDict K w aSIGNS es n
  n0 : PySem.W.nsIn K aSIGNS "hall" = some none
  n3 : PySem.W.nsIn K aSIGNS "at" = some none
  d1 : ∃ t, KDct K w aSIGNS "wall" (.ref t) ∧ ∀ H : Hp, SqT K H t [.str "-", .str "|"]
  d2 : ∃ t, KDct K w aSIGNS "door" (.ref t) ∧ ∀ H : Hp, SqT K H t [.str "e", .str "n", .str "s", .str "w"]
end
end Pd
/-! SemO -/
set_option Elab.async false
set_option linter.all false
set_option maxRecDepth 100000
set_option maxHeartbeats 4000000
namespace Pd
variable [Pd.Wd]
open PySem PySem.Spec PyProof.Rows L2 PySem.W
local macro_rules | `(tactic| walk_at "ed") => `(tactic| repeat' (first
  | with_reducible (first
    | exact ed_int | exact ed_str | exact ed_bl | exact ed_non
    | exact ea_nil | refine' ea_cons ?_ ?_
    | refine' ed_isi ?_ ?_ | refine' ed_isi2 ?_ ?_ ?_
    | refine' ed_andV ?_ (fun _ => ?_) | refine' ed_orV ?_ (fun _ => ?_) | refine' ed_notV ?_
    | refine' ed_chain ?_ ?_ ?_ (fun _ => ⟨?_, ?_⟩)
    | refine' ed_tup ?_ ?_ | refine' ed_lst ?_ ?_
    | refine' et_not ?_ | refine' et_and ?_ (fun _ => ?_) | refine' et_or ?_ (fun _ => ?_) | exact et_yes
    | refine' et_test ?_ | refine' et_B ?_
    | refine' ed_op ?_ ?_ ?_
    | refine' ed_cb ?_ ?_)
  | exact ed_var rfl
  | exact kit_tt | exact kit_ii | exact kit_ib | exact kit_ll | exact kit_lt | exact kit_tl
  | exact r2_addI | exact r2_subI | exact r2_lt | exact r2_le | exact r2_gt | exact r2_ge | exact r2_isN | exact r2_notN
  | exact rc_lenT | exact rc_lenL | exact rc_intB | exact rc_tupL
  | with_reducible (first | refine' r2_eq ?_ ?_ | refine' r2_ne ?_ ?_)
  | exact sh_int _ | exact sh_sg _ | exact sh_cell _ | exact sh_edge _ | exact sh_pair _ | exact sh_str _ (by decide +kernel)
  | exact r2_ixT rfl | exact r2_ixL rfl
  | refine' ed_tup ?_ ?_
  | (show List.length _ ≤ 100000; simp; done)))
/-! ### one list of one's own, statement by statement -/
section
variable {K : PySem.W.Frag} {B0 B1 H1 B H : Hp} {l : Addr} {j : Nat} {σ : L2.St} {ρ ρ1 ρ0 : Rho} {ds : List PyData} {te : TE} {tt : TT} {d : PyData} {vs : List Nat}
theorem Own1.env {σ' : L2.St} (o : Own1 B0 B1 H1 l j σ B H ρ ds) (e : EnvD σ' B ρ1) (w : L2.wipe σ' vs = L2.wipe σ vs) (hj : j ∉ vs) : Own1 B0 B1 H1 l j σ' B H ρ1 ds := by
  refine ⟨o.b0, o.g, o.f, ?_, o.n, o.h, e⟩
  have h1 := wipe_get σ' vs j
  have h2 := wipe_get σ vs j
  rw [if_neg (fun z => hj z.1)] at h1 h2
  rw [← h1, w, h2]
  exact o.s
end
end Pd
/-! SemQ -/
set_option Elab.async false
set_option linter.all false
set_option maxRecDepth 100000
set_option maxHeartbeats 4000000
namespace Pd
variable [Pd.Wd]
open PySem PySem.Spec PyProof.Rows L2 PySem.W
local macro_rules | `(tactic| walk_at "ed") => `(tactic| repeat' (first
  | with_reducible (first
    | exact ed_int | exact ed_str | exact ed_bl | exact ed_non
    | exact ea_nil | refine' ea_cons ?_ ?_
    | refine' ed_isi ?_ ?_ | refine' ed_isi2 ?_ ?_ ?_
    | refine' ed_andV ?_ (fun _ => ?_) | refine' ed_orV ?_ (fun _ => ?_) | refine' ed_notV ?_
    | refine' ed_chain ?_ ?_ ?_ (fun _ => ⟨?_, ?_⟩)
    | refine' ed_tup ?_ ?_ | refine' ed_lst ?_ ?_
    | refine' et_not ?_ | refine' et_and ?_ (fun _ => ?_) | refine' et_or ?_ (fun _ => ?_) | exact et_yes
    | refine' et_test ?_ | refine' et_B ?_
    | refine' ed_op ?_ ?_ ?_
    | refine' ed_cb ?_ ?_)
  | exact ed_var rfl
  | exact kit_tt | exact kit_ii | exact kit_ib | exact kit_ll | exact kit_lt | exact kit_tl
  | exact r2_addI | exact r2_subI | exact r2_lt | exact r2_le | exact r2_gt | exact r2_ge | exact r2_isN | exact r2_notN
  | exact rc_lenT | exact rc_lenL | exact rc_intB | exact rc_tupL
  | with_reducible (first | refine' r2_eq ?_ ?_ | refine' r2_ne ?_ ?_)
  | exact sh_int _ | exact sh_sg _ | exact sh_cell _ | exact sh_edge _ | exact sh_pair _ | exact sh_str _ (by decide +kernel)
  | exact r2_ixT rfl | exact r2_ixL rfl
  | refine' ed_tup ?_ ?_
  | (show List.length _ ≤ 100000; simp; done)))
/-! ### the text of a hall -/
section
variable {K : PySem.W.Frag} {w : World} {ρ : Rho} {ta tb tc te tk : TE}
theorem intD {i : Int} (h : 0 ≤ i) : PyData.int i = .int (i.toNat : Nat) := by rw [Int.toNat_of_nonneg h]
theorem ED.int {i : Int} (h : ED te ρ (.int i)) (h0 : 0 ≤ i) : ED te ρ (.int (i.toNat : Nat)) := h.is (intD h0)
end
end Pd
/-! SemR -/
set_option Elab.async false
set_option linter.all false
set_option maxRecDepth 100000
set_option maxHeartbeats 4000000
namespace Pd
variable [Pd.Wd]
open PySem PySem.Spec PyProof.Rows L2 PySem.W
local macro_rules | `(tactic| walk_at "ed") => `(tactic| repeat' (first
  | with_reducible (first
    | exact ed_int | exact ed_str | exact ed_bl | exact ed_non
    | exact ea_nil | refine' ea_cons ?_ ?_
    | refine' ed_isi ?_ ?_ | refine' ed_isi2 ?_ ?_ ?_
    | refine' ed_andV ?_ (fun _ => ?_) | refine' ed_orV ?_ (fun _ => ?_) | refine' ed_notV ?_
    | refine' ed_chain ?_ ?_ ?_ (fun _ => ⟨?_, ?_⟩)
    | refine' ed_tup ?_ ?_ | refine' ed_lst ?_ ?_
    | refine' et_not ?_ | refine' et_and ?_ (fun _ => ?_) | refine' et_or ?_ (fun _ => ?_) | exact et_yes
    | refine' et_test ?_ | refine' et_B ?_
    | refine' ed_op ?_ ?_ ?_
    | refine' ed_cb ?_ ?_)
  | exact ed_var rfl
  | exact kit_tt | exact kit_ii | exact kit_ib | exact kit_ll | exact kit_lt | exact kit_tl
  | exact r2_addI | exact r2_subI | exact r2_lt | exact r2_le | exact r2_gt | exact r2_ge | exact r2_isN | exact r2_notN
  | exact rc_lenT | exact rc_lenL | exact rc_intB | exact rc_tupL
  | with_reducible (first | refine' r2_eq ?_ ?_ | refine' r2_ne ?_ ?_)
  | exact sh_int _ | exact sh_sg _ | exact sh_cell _ | exact sh_edge _ | exact sh_pair _ | exact sh_str _ (by decide +kernel)
  | exact r2_ixT rfl | exact r2_ixL rfl
  | refine' ed_tup ?_ ?_
  | (show List.length _ ≤ 100000; simp; done)))
/-! ### what the rows of a text tell -/
def kK (k : Nat) : Key := .inr (St' (kindC k))
def pairsK (L : Nat → V) (n : Nat) : List (Key × V) := (List.range n).map fun k => (kK k, L k)
/-- the dict of four lists, under way -/
structure Th (B0 B1 H1 : Hp) (p : Addr) (L : Nat → Addr) (σ : L2.St) (B H : Hp) (ρ : Rho) (os : Nat → List PyData) : Prop where
  b0 : Ex B0 B
  g : Gr B1 H1 B H
  e : EnvD σ B ρ
  s : σ[1]? = some (some (.ref p))
  np : B p = none
  fp : H1 p = none
  hp : H p = some (.dK (pairsK (fun k => .ref (L k)) 4))
  nl : ∀ k, k < 4 → B (L k) = none ∧ H1 (L k) = none ∧ L k ≠ p
  hl : ∀ k, k < 4 → ∃ xs, H (L k) = some (.lst xs) ∧ DHs B xs (os k)
  inj : ∀ j k, j < 4 → k < 4 → L j = L k → j = k
section
variable {K : PySem.W.Frag} {w : World} {B0 B1 H1 B H B' H' : Hp} {p : Addr} {L : Nat → Addr} {σ : L2.St} {ρ ρ1 ρ0 : Rho} {os : Nat → List PyData} {te : TE} {tt : TT} {d : PyData} {i : Nat}
theorem Th.mono (o : Th B0 B1 H1 p L σ B H ρ os) (k : Gr B H B' H') : Th B0 B1 H1 p L σ B' H' ρ os := by
  refine ⟨o.b0.trans k.b, o.g.trans k, o.e.mono k.b, o.s, k.n p o.np (by rw [o.hp]; exact fun z => nomatch z), o.fp, k.h _ _ o.hp, fun j hj => ?_, fun j hj => ?_, o.inj⟩
  · obtain ⟨h1, h2, h3⟩ := o.nl j hj
    obtain ⟨xs, h4, _⟩ := o.hl j hj
    exact ⟨k.n _ h1 (by rw [h4]; exact fun z => nomatch z), h2, h3⟩
  · obtain ⟨xs, h4, h5⟩ := o.hl j hj
    exact ⟨xs, k.h _ _ h4, h5.mono k.b⟩
theorem Th.set {v : V} (o : Th B0 B1 H1 p L σ B H ρ os) (hi : i ≠ 1) (dv : DH B v d) : Th B0 B1 H1 p L (σ.set i (some v)) B H (ρ.set i (some d)) os :=
  ⟨o.b0, o.g, o.e.set i dv, by rw [List.getElem?_set_ne hi]; exact o.s, o.np, o.fp, o.hp, o.nl, o.hl, o.inj⟩
theorem Th.less (o : Th B0 B1 H1 p L σ B H ρ os) (k : Rle ρ0 ρ) : Th B0 B1 H1 p L σ B H ρ0 os :=
  ⟨o.b0, o.g, o.e.less k, o.s, o.np, o.fp, o.hp, o.nl, o.hl, o.inj⟩
theorem Th.base {B0' : Hp} (o : Th B0 B1 H1 p L σ B H ρ os) (k : Ex B0' B) : Th B0' B1 H1 p L σ B H ρ os := ⟨k, o.g, o.e, o.s, o.np, o.fp, o.hp, o.nl, o.hl, o.inj⟩
end
end Pd
/-! SemS -/
set_option Elab.async false
set_option linter.all false
set_option maxRecDepth 100000
set_option maxHeartbeats 4000000
namespace Pd
variable [Pd.Wd]
open PySem PySem.Spec PyProof.Rows L2 PySem.W
local macro_rules | `(tactic| walk_at "ed") => `(tactic| repeat' (first
  | with_reducible (first
    | exact ed_int | exact ed_str | exact ed_bl | exact ed_non
    | exact ea_nil | refine' ea_cons ?_ ?_
    | refine' ed_isi ?_ ?_ | refine' ed_isi2 ?_ ?_ ?_
    | refine' ed_andV ?_ (fun _ => ?_) | refine' ed_orV ?_ (fun _ => ?_) | refine' ed_notV ?_
    | refine' ed_chain ?_ ?_ ?_ (fun _ => ⟨?_, ?_⟩)
    | refine' ed_tup ?_ ?_ | refine' ed_lst ?_ ?_
    | refine' et_not ?_ | refine' et_and ?_ (fun _ => ?_) | refine' et_or ?_ (fun _ => ?_) | exact et_yes
    | refine' et_test ?_ | refine' et_B ?_
    | refine' ed_op ?_ ?_ ?_
    | refine' ed_cb ?_ ?_)
  | exact ed_var rfl
  | exact kit_tt | exact kit_ii | exact kit_ib | exact kit_ll | exact kit_lt | exact kit_tl
  | exact r2_addI | exact r2_subI | exact r2_lt | exact r2_le | exact r2_gt | exact r2_ge | exact r2_isN | exact r2_notN
  | exact rc_lenT | exact rc_lenL | exact rc_intB | exact rc_tupL
  | with_reducible (first | refine' r2_eq ?_ ?_ | refine' r2_ne ?_ ?_)
  | exact sh_int _ | exact sh_sg _ | exact sh_cell _ | exact sh_edge _ | exact sh_pair _ | exact sh_str _ (by decide +kernel)
  | exact r2_ixT rfl | exact r2_ixL rfl
  | refine' ed_tup ?_ ?_
  | (show List.length _ ≤ 100000; simp; done)))
/-! ### things_of -/
section
variable {K : PySem.W.Frag} {w : World} {B0 B1 H1 B H B' H' : Hp} {p : Addr} {L : Nat → Addr} {σ : L2.St} {ρ ρ1 ρ0 : Rho} {os : Nat → List PyData} {te : TE} {tt : TT} {d : PyData} {i : Nat}
theorem Th.env {σ' : L2.St} {vs : List Nat} (o : Th B0 B1 H1 p L σ B H ρ os) (e : EnvD σ' B ρ1) (w : L2.wipe σ' vs = L2.wipe σ vs) (hj : 1 ∉ vs) : Th B0 B1 H1 p L σ' B H ρ1 os := by
  refine ⟨o.b0, o.g, e, ?_, o.np, o.fp, o.hp, o.nl, o.hl, o.inj⟩
  have h1 := wipe_get σ' vs 1
  have h2 := wipe_get σ vs 1
  rw [if_neg (fun z => hj z.1)] at h1 h2
  rw [← h1, w, h2]
  exact o.s
/-- a list beside the base, taken into it -/
theorem Gr.take {l : Addr} {xs : List V} {ds : List PyData} (g : Gr B1 H1 B H) (n : B l = none) (f : H1 l = none) (h : H l = some (.lst xs)) (hx : DHs B xs ds) : ∃ B', Ex B B' ∧ Gr B1 H1 B' H ∧ DH B' (.ref l) (.list ds) ∧ ∀ a, a ≠ l → B' a = B a := by
  have nB1 : B1 l = none := g.b.nil n
  refine ⟨upd B l (.lst xs), Ex.new n, ⟨g.b.mut nB1, fun a u ha => ?_, g.h, fun a p1 p2 => ?_⟩, .lst upd_same (hx.mono (Ex.new n)), fun a ha => upd_ne ha⟩
  · by_cases e : a = l
    · subst e
      rw [upd_same] at ha
      cases ha
      exact h
    · rw [upd_ne e] at ha
      exact g.t a u ha
  · have e : a ≠ l := fun z => p2 (by rw [z]; exact f)
    rw [upd_ne e]
    exact g.n a p1 p2
theorem Th.done (o : Th B0 B1 H1 p L σ B H ρ os) : ∃ B', Ex B B' ∧ Gr B1 H1 B' H ∧ B' p = none ∧ ∀ k, k < 4 → DH B' (.ref (L k)) (.list (os k)) := by
  have key : ∀ n, n ≤ 4 → ∃ B', Ex B B' ∧ Gr B1 H1 B' H ∧ B' p = none ∧ (∀ k, k < n → DH B' (.ref (L k)) (.list (os k))) ∧ ∀ k, n ≤ k → k < 4 → B' (L k) = none := by
    intro n
    induction n with
    | zero => exact fun _ => ⟨B, Ex.refl B, o.g, o.np, fun k hk => absurd hk (by omega), fun k _ hk => (o.nl k hk).1⟩
    | succ n ih =>
      intro hn
      obtain ⟨B2, e2, g2, p2, d2, n2⟩ := ih (by omega)
      obtain ⟨_, f, ne⟩ := o.nl n (by omega)
      obtain ⟨xs, hl, hx⟩ := o.hl n (by omega)
      obtain ⟨B3, e3, g3, d3, k3⟩ := g2.take (n2 n (Nat.le_refl n) (by omega)) f hl (hx.mono e2)
      refine ⟨B3, e2.trans e3, g3, by rw [k3 p (fun z => ne z.symm)]; exact p2, fun k hk => ?_, fun k hk hk4 => ?_⟩
      · by_cases e : k = n
        · rw [e]
          exact d3
        · exact (d2 k (by omega)).mono e3
      · rw [k3 _ (fun z => by have := o.inj k n hk4 (by omega) z; omega)]
        exact n2 k (by omega) hk4
  obtain ⟨B', a, b, c, d, _⟩ := key 4 (Nat.le_refl 4)
  exact ⟨B', a, b, c, d⟩
end
end Pd
/-! SemZ -/
set_option Elab.async false
set_option linter.all false
set_option maxRecDepth 100000
set_option maxHeartbeats 4000000
namespace Pd
variable [Pd.Wd]
open PySem PySem.Spec PyProof.Rows L2 PySem.W
local macro_rules | `(tactic| walk_at "ed") => `(tactic| repeat' (first
  | with_reducible (first
    | exact ed_int | exact ed_str | exact ed_bl | exact ed_non
    | exact ea_nil | refine' ea_cons ?_ ?_
    | refine' ed_isi ?_ ?_ | refine' ed_isi2 ?_ ?_ ?_
    | refine' ed_andV ?_ (fun _ => ?_) | refine' ed_orV ?_ (fun _ => ?_) | refine' ed_notV ?_
    | refine' ed_chain ?_ ?_ ?_ (fun _ => ⟨?_, ?_⟩)
    | refine' ed_tup ?_ ?_ | refine' ed_lst ?_ ?_
    | refine' et_not ?_ | refine' et_and ?_ (fun _ => ?_) | refine' et_or ?_ (fun _ => ?_) | exact et_yes
    | refine' et_test ?_ | refine' et_B ?_
    | refine' ed_op ?_ ?_ ?_
    | refine' ed_cb ?_ ?_)
  | exact ed_var rfl
  | exact kit_tt | exact kit_ii | exact kit_ib | exact kit_ll | exact kit_lt | exact kit_tl
  | exact r2_addI | exact r2_subI | exact r2_lt | exact r2_le | exact r2_gt | exact r2_ge | exact r2_isN | exact r2_notN
  | exact rc_lenT | exact rc_lenL | exact rc_intB | exact rc_tupL
  | with_reducible (first | refine' r2_eq ?_ ?_ | refine' r2_ne ?_ ?_)
  | exact sh_int _ | exact sh_sg _ | exact sh_cell _ | exact sh_edge _ | exact sh_pair _ | exact sh_str _ (by decide +kernel)
  | exact r2_ixT rfl | exact r2_ixL rfl
  | refine' ed_tup ?_ ?_
  | (show List.length _ ≤ 100000; simp; done)))
/-! ### read -/
/-- the dict of the rows' things, at slot 1 -/
structure Kp (p : Addr) (v : Nat → V) (rs : List Rw) (σ : L2.St) (B H : Hp) : Prop where
  s : σ[1]? = some (some (.ref p))
  n : B p = none
  h : H p = some (.dK (pairsK v 4))
  d : ∀ k, k < 4 → DH B (v k) (.list (thingsK rs k))
theorem Kp.mono {p : Addr} {v : Nat → V} {rs : List Rw} {σ : L2.St} {B H B' H' : Hp} (o : Kp p v rs σ B H) (g : Gr B H B' H') : Kp p v rs σ B' H' :=
  ⟨o.s, g.n p o.n (by rw [o.h]; exact fun z => nomatch z), g.h _ _ o.h, fun k hk => (o.d k hk).mono g.b⟩
theorem Kp.env {p : Addr} {v : Nat → V} {rs : List Rw} {σ σ' : L2.St} {B H : Hp} {vs : List Nat} (o : Kp p v rs σ B H) (w : L2.wipe σ' vs = L2.wipe σ vs) (hj : 1 ∉ vs) : Kp p v rs σ' B H := by
  refine ⟨?_, o.n, o.h, o.d⟩
  have h1 := wipe_get σ' vs 1
  have h2 := wipe_get σ vs 1
  rw [if_neg (fun z => hj z.1)] at h1 h2
  rw [← h1, w, h2]
  exact o.s
def EK (p : Addr) (v : Nat → V) (rs : List Rw) (te : TE) (ρ : Rho) (d : PyData) : Prop := ∀ σ B H, Ex B H → EnvD σ B ρ → Kp p v rs σ B H → ∀ Q : VK, (∀ x B' H', Gr B H B' H' → DH B' x d → Q x H') → te σ H Q
section
variable {K : PySem.W.Frag} {w : World} {p : Addr} {v : Nat → V} {rs : List Rw} {ρ : Rho} {ta tb te : TE} {tr : TA} {d e z : PyData} {ds es : List PyData}
theorem EK.is {d' : PyData} (h : EK p v rs te ρ d) (e : d = d') : EK p v rs te ρ d' := e ▸ h
end
end Pd
/-! SemH0 -/
set_option Elab.async false
set_option linter.all false
set_option maxRecDepth 100000
set_option maxHeartbeats 4000000
namespace Pd
variable [Pd.Wd]
open PySem PySem.Spec PyProof.Rows L2 PySem.W
local macro_rules | `(tactic| walk_at "ed") => `(tactic| repeat' (first
  | with_reducible (first
    | exact ed_int | exact ed_str | exact ed_bl | exact ed_non
    | exact ea_nil | refine' ea_cons ?_ ?_
    | refine' ed_isi ?_ ?_ | refine' ed_isi2 ?_ ?_ ?_
    | refine' ed_andV ?_ (fun _ => ?_) | refine' ed_orV ?_ (fun _ => ?_) | refine' ed_notV ?_
    | refine' ed_chain ?_ ?_ ?_ (fun _ => ⟨?_, ?_⟩)
    | refine' ed_tup ?_ ?_ | refine' ed_lst ?_ ?_
    | refine' et_not ?_ | refine' et_and ?_ (fun _ => ?_) | refine' et_or ?_ (fun _ => ?_) | exact et_yes
    | refine' et_test ?_ | refine' et_B ?_
    | refine' ed_op ?_ ?_ ?_
    | refine' ed_cb ?_ ?_)
  | exact ed_var rfl
  | exact kit_tt | exact kit_ii | exact kit_ib | exact kit_ll | exact kit_lt | exact kit_tl
  | exact r2_addI | exact r2_subI | exact r2_lt | exact r2_le | exact r2_gt | exact r2_ge | exact r2_isN | exact r2_notN
  | exact rc_lenT | exact rc_lenL | exact rc_intB | exact rc_tupL
  | with_reducible (first | refine' r2_eq ?_ ?_ | refine' r2_ne ?_ ?_)
  | exact sh_int _ | exact sh_sg _ | exact sh_cell _ | exact sh_edge _ | exact sh_pair _ | exact sh_str _ (by decide +kernel)
  | exact r2_ixT rfl | exact r2_ixL rfl
  | refine' ed_tup ?_ ?_
  | (show List.length _ ≤ 100000; simp; done)))
/-! ### what a def comes to: a value, or an exception of a class with its fields -/
abbrev Exn := Addr × List (Str × V)
inductive Out where
  | ok (d : PyData)
  | ex (e : Exn)
def Rais (B H : Hp) (E : XK) (e : Exn) : Prop := ∀ B' H' dx, Gr B H B' H' → H' dx = none → E (.ref e.1) (some dx) (upd H' dx (.xd e.2))
def Fit (B H : Hp) (Q : VK) (E : XK) : Out → Prop
  | .ok d => ∀ v B' H', Gr B H B' H' → DH B' v d → Q v H'
  | .ex e => Rais B H E e
theorem Rais.gr {B H B' H' : Hp} {E : XK} {e : Exn} (h : Rais B H E e) (g : Gr B H B' H') : Rais B' H' E e := fun B2 H2 dx g2 hd => h B2 H2 dx (g.trans g2) hd
theorem Fit.gr {B H B' H' : Hp} {Q : VK} {E : XK} {o : Out} (h : Fit B H Q E o) (g : Gr B H B' H') : Fit B' H' Q E o := by
  cases o with
  | ok d => exact fun v B2 H2 g2 dv => h v B2 H2 (g.trans g2) dv
  | ex e => exact Rais.gr h g
/-- a def over data that may raise -/
def spO (R : List PyData → Out → Prop) : Sp := fun vs H Q E => ∃ B ds o, Ex B H ∧ DHs B vs ds ∧ R ds o ∧ Fit B H Q E o
/-- a suite that goes on, or raises -/
def XD (t : TS) (E : XK) (ρ ρ' : Rho) (x : Option Exn) : Prop := ∀ σ B H (D : Ends), Ex B H → EnvD σ B ρ → (x = none → ∀ σ' B' H', Gr B H B' H' → EnvD σ' B' ρ' → D.nx σ' H') → (∀ e, x = some e → Rais B H E e) → t D σ H
/-- a suite that gives a value, or raises -/
def OD (t : TS) (E : XK) (ρ : Rho) (o : Out) : Prop := ∀ σ B H (D : Ends), Ex B H → EnvD σ B ρ → Fit B H D.rt E o → t D σ H
def outX : Option Exn → Out
  | none => .ok .none
  | some e => .ex e
def thenO : Option Exn → Out → Out
  | none, o => o
  | some e, _ => .ex e
section
variable {K : PySem.W.Frag} {ρ ρ' ρ1 ρ0 : Rho} {t u : TS} {tt : TT} {te : TE} {ta : TA} {E : XK} {x y : Option Exn} {o : Out} {d : PyData} {ds : List PyData} {e : Exn}
theorem xd_sd (h : SD t ρ ρ') : XD t E ρ ρ' none := fun σ B H D ex ev q _ => h σ B H D ex ev (q rfl)
theorem xd_less (h : XD t E ρ ρ' x) (k : Rle ρ0 ρ') : XD t E ρ ρ0 x := fun σ B H D ex ev q r => h σ B H D ex ev (fun e σ' B' H' g ev' => q e σ' B' H' g (ev'.less k)) r
theorem xd_is (h : XD t E ρ ρ' x) (e : x = y) : XD t E ρ ρ' y := e ▸ h
theorem xd_seq (h : XD t E ρ ρ1 x) (k : XD u E ρ1 ρ' y) : XD (tSeq t u) E ρ ρ' (x.or y) := fun σ B H D ex ev q r => by
  refine h σ B H { D with nx := u D } ex ev (fun hx σ' B' H' g ev' => ?_) fun e he => r e (by rw [he]; rfl)
  subst hx
  exact k σ' B' H' D g.t ev' (fun hy σ2 B2 H2 g2 ev2 => q (by rw [hy]; rfl) σ2 B2 H2 (g.trans g2) ev2) fun e he => (r e (by rw [he]; rfl)).gr g
theorem xd_seq2 (h : SD t ρ ρ1) (k : XD u E ρ1 ρ' y) : XD (tSeq t u) E ρ ρ' y := by
  have := xd_seq (xd_sd (E := E) h) k
  exact this
theorem xd_ifR {b : Bool} (h : ET tt ρ b) (hr : b = true → XD t E ρ ρ (some e)) : XD (tIfS tt t tNext) E ρ ρ (if b then some e else none) := fun σ B H D ex ev q r => by
  refine h σ B H ex ev _ fun B1 H1 g1 => ?_
  cases b with
  | true => exact hr rfl σ B1 H1 D g1.t (ev.mono g1.b) (fun z => nomatch z) fun e' he => (r e' he).gr g1
  | false => exact q rfl σ B1 H1 g1 (ev.mono g1.b)
theorem od_seq (h : XD t E ρ ρ1 x) (k : x = none → OD u E ρ1 o) : OD (tSeq t u) E ρ (thenO x o) := fun σ B H D ex ev q => by
  cases x with
  | none => exact h σ B H { D with nx := u D } ex ev (fun _ σ' B' H' g ev' => k rfl σ' B' H' D g.t ev' (Fit.gr q g)) fun e he => nomatch he
  | some e => exact h σ B H { D with nx := u D } ex ev (fun z => nomatch z) fun e' he => by cases he; exact q
theorem od_ret (h : ED te ρ d) : OD (tRet te) E ρ (.ok d) := fun σ B H D ex ev q => h σ B H ex ev D.rt q
/-- a call that may raise, as a statement -/
theorem xd_call {R : List PyData → Out → Prop} (h : EA ta ρ ds) (hR : R ds (outX x)) : XD (tDrop (tCall (spO R) [] E ta)) E ρ ρ x := fun σ B H D ex ev q r => by
  refine h σ B H ex ev _ fun vs B1 H1 g1 d1 => ?_
  refine ⟨B1, ds, outX x, g1.t, by rw [List.append_nil]; exact d1, hR, ?_⟩
  cases x with
  | none => exact fun v B' H' g2 _ => q rfl σ B' H' (g1.trans g2) (ev.mono (g1.trans g2).b)
  | some e => exact (r e rfl).gr g1
def exC (C : Addr) (i : Int) : Exn := (C, [("number", .int i)])
def exH (C : Addr) (i j : Int) : Exn := (C, [("number", .int j), ("part", .int i)])
theorem xd_raiseC {C : Addr} {i : Int} (h : ED te ρ (.int i)) (hi : initOkC i = true) : XD (tRaiseX C (sp_initC C) E (tCons te tNil)) E ρ ρ' (some (exC C i)) := fun σ B H D ex ev q r => by
  refine h σ B H ex ev _ fun v B2 H2 g2 dv => ?_
  cases dv
  exact ⟨by show 1 ≤ 1000; decide, raise_C hi fun dx hd => r _ rfl B2 H2 dx g2 hd⟩
theorem xd_raiseH {C : Addr} {i j : Int} {tf : TE} (h : ED te ρ (.int i)) (k : ED tf ρ (.int j)) (hi : initOkH i j = true) : XD (tRaiseX C (sp_initH C) E (tCons te (tCons tf tNil))) E ρ ρ' (some (exH C i j)) := fun σ B H D ex ev q r => by
  refine h σ B H ex ev _ fun v B2 H2 g2 dv => ?_
  cases dv
  refine k σ B2 H2 g2.t (ev.mono g2.b) _ fun v B3 H3 g3 dv => ?_
  cases dv
  exact ⟨by show 2 ≤ 1000; decide, raise_H hi fun dx hd => r _ rfl B3 H3 dx (g2.trans g3) hd⟩
/-- the first that is told -/
def firstX {α : Type} (f : Nat → α → Option Exn) : Nat → List α → Option Exn
  | _, [] => none
  | n, x :: xs => (f n x).or (firstX f (n + 1) xs)
theorem xd_for {α : Type} {wi : TI} {g : TG} {tb : TS} {items : List α} (enc : α → PyData) (f : Nat → α → Option Exn) (hi : IE wi ρ0 (items.map enc))
    (turn : ∀ (n : Nat) (x : α), items[n]? = some x → (∀ m y, m < n → items[m]? = some y → f m y = none) → ∃ ρ1 vs, GD g ρ0 (enc x) ρ1 vs ∧ XD tb E ρ1 ρ0 (f n x)) : XD (tFor wi g tb) E ρ0 ρ0 (firstX f 0 items) := fun σ B H D ex ev q r => by
  refine hi σ B H ex ev _ fun J B2 H2 g2 hJ => ?_
  refine ⟨fun n m σ' H' => m = items.length - n ∧ n ≤ items.length ∧ (firstX f 0 items = firstX f n (items.drop n) ∧ ∀ m y, m < n → items[m]? = some y → f m y = none) ∧ ∃ B', Gr B2 H2 B' H' ∧ EnvD σ' B' ρ0, ⟨items.length, by omega, Nat.zero_le _, ⟨rfl, fun _ _ z => absurd z (Nat.not_lt_zero _)⟩, B2, Gr.refl g2.t, ev.mono g2.b⟩, ?_⟩
  rintro n m σ' H' ⟨rfl, hle, ⟨hf, hp⟩, B', g3, ev3⟩
  obtain ⟨hstop, hgo⟩ := hJ B' H' g3.b g3.t n
  by_cases hlt : n < items.length
  · right
    have hd : items[n]? = some items[n] := List.getElem?_eq_getElem hlt
    obtain ⟨go, hy⟩ := hgo (enc items[n]) (by rw [List.getElem?_map, hd]; rfl)
    have hf2 : firstX f 0 items = (f n items[n]).or (firstX f (n + 1) (items.drop (n + 1))) := by
      rw [hf, List.drop_eq_getElem_cons hlt]
      rfl
    refine ⟨go, fun σ2 H2' => n + 1 ≤ items.length ∧ (firstX f 0 items = firstX f (n + 1) (items.drop (n + 1)) ∧ ∀ m y, m < n + 1 → items[m]? = some y → f m y = none) ∧ ∃ B', Gr B2 H2 B' H2' ∧ EnvD σ2 B' ρ0, fun σ2 H2 ⟨p1, p0, p2⟩ => ⟨items.length - (n + 1), by omega, rfl, p1, p0, p2⟩, fun x H3 hyl => ?_⟩
    obtain ⟨B3, g4, dx⟩ := hy x H3 hyl
    obtain ⟨ρ1, vs, hg, hs⟩ := turn n _ hd hp
    refine hg σ' B3 H3 x g4.t (ev3.mono g4.b) dx _ fun σ4 ev4 _ => ?_
    refine hs σ4 B3 H3 _ g4.t ev4 (fun hn σ5 B5 H5 g5 ev5 => ?_) fun e he => ?_
    · refine ⟨hlt, ⟨by rw [hf2, hn]; rfl, fun m y hm hyy => ?_⟩, B5, (g3.trans g4).trans g5, ev5⟩
      by_cases z : m < n
      · exact hp m y z hyy
      · have z : m = n := by omega
        subst z
        rw [hd] at hyy
        cases hyy
        exact hn
    · exact (r e (by rw [hf2, he]; rfl)).gr (g2.trans (g3.trans g4))
  · left
    have hie : n = items.length := by omega
    subst hie
    refine ⟨hstop (by rw [List.length_map]), q ?_ σ' B' H' (g2.trans g3) ev3⟩
    rw [hf, List.drop_length]
    rfl
end
/-- a def over data that may raise keeps its promise -/
theorem def_okO {P : Program} {w : World} {K : PySem.W.Frag} {mg : Str → Option Value} {base : Heap} {x : Str} {st : Stmt} {ps N : List Str} {k : Nat} {R : List PyData → Out → Prop}
    (F : At K mg x st ps) (S : FnScope N ps (defScope st)) (len : ∀ ds o, R ds o → ds.length = ps.length)
    (hbody : ∀ (f : Addr) (cdv : Value) (A : Around) (outer : List Env) (s : Shared) (H : Hp) (E : XK), Room k (A.deeper (envOfC x (defScope st) s.heap.objs.size f cdv)) →
      ∃ t, PSs (cxOf (L2.CX P w) P w K mg base N x (defScope st) f cdv A outer s H E) (defBody st) t ∧ ∀ ds o, R ds o → ∀ σ B H Q, Ex B H → EnvD σ B (ds.map some ++ List.replicate (N.length - ds.length) none) → Fit B H Q E o → t { nx := fun _ H' => Q .non H', rt := Q } σ H) (hN : ps.length ≤ N.length := by decide) :
    DefS P w K mg base (L2.CX P w) (k + 1) x ps (spO R) := by
  obtain ⟨f, fd, h1, h2, h3⟩ := F
  refine ⟨f, fd, h1, h2.kp, h3, h2.okX S (fun vs H Q E ⟨B, ds, o, _, hd, hR, _⟩ => by rw [hd.length]; exact len ds o hR) fun cdv A outer s H vs Q E hr ⟨B, ds, o, ex, hd, hR, ft⟩ => ?_⟩
  obtain ⟨t, ht, hq⟩ := hbody f cdv A outer s H E hr
  refine ⟨t, ht, hq ds o hR _ B H Q ex (env_start hd ?_) ft⟩
  rw [hd.length, len ds o hR]
  exact hN
theorem xd_end {t : TS} {E : XK} {ρ ρ' : Rho} {x : Option Exn} (h : XD t E ρ ρ' x) {σ : L2.St} {B H : Hp} {Q : VK} (ex : Ex B H) (ev : EnvD σ B ρ) (ft : Fit B H Q E (outX x)) : t { nx := fun _ H' => Q .non H', rt := Q } σ H := by
  refine h σ B H _ ex ev (fun hx σ' B' H' g _ => ?_) fun e he => ?_
  · subst hx
    exact ft .non B' H' g .non
  · subst he
    exact ft
end Pd
/-! SemH1 -/
set_option Elab.async false
set_option linter.all false
set_option maxRecDepth 100000
set_option maxHeartbeats 4000000
namespace Pd
variable [Pd.Wd]
open PySem PySem.Spec PyProof.Rows L2 PySem.W
local macro_rules | `(tactic| walk_at "ed") => `(tactic| repeat' (first
  | with_reducible (first
    | exact ed_int | exact ed_str | exact ed_bl | exact ed_non
    | exact ea_nil | refine' ea_cons ?_ ?_
    | refine' ed_isi ?_ ?_ | refine' ed_isi2 ?_ ?_ ?_
    | refine' ed_andV ?_ (fun _ => ?_) | refine' ed_orV ?_ (fun _ => ?_) | refine' ed_notV ?_
    | refine' ed_chain ?_ ?_ ?_ (fun _ => ⟨?_, ?_⟩)
    | refine' ed_tup ?_ ?_ | refine' ed_lst ?_ ?_
    | refine' et_not ?_ | refine' et_and ?_ (fun _ => ?_) | refine' et_or ?_ (fun _ => ?_) | exact et_yes
    | refine' et_test ?_ | refine' et_B ?_
    | refine' ed_op ?_ ?_ ?_
    | refine' ed_cb ?_ ?_)
  | exact ed_var rfl
  | exact kit_tt | exact kit_ii | exact kit_ib | exact kit_ll | exact kit_lt | exact kit_tl
  | exact r2_addI | exact r2_subI | exact r2_lt | exact r2_le | exact r2_gt | exact r2_ge | exact r2_isN | exact r2_notN
  | exact rc_lenT | exact rc_lenL | exact rc_intB | exact rc_tupL
  | with_reducible (first | refine' r2_eq ?_ ?_ | refine' r2_ne ?_ ?_)
  | exact sh_int _ | exact sh_sg _ | exact sh_cell _ | exact sh_edge _ | exact sh_pair _ | exact sh_str _ (by decide +kernel)
  | exact r2_ixT rfl | exact r2_ixL rfl
  | refine' ed_tup ?_ ?_
  | (show List.length _ ≤ 100000; simp; done)))
/-! ### halls and walkers that are looked at -/
def edgeX (CH : Addr) (h : Hall) (part : Nat) (es : List Edge) (most : Nat) (taken : List Edge) (n : Nat) (e : Edge) : Option Exn :=
  (if decide (n = most) || !isEdge h e then some (exH CH part n) else none).or (if decide (e ∈ taken) || decide (e ∈ es.take n) then some (exH CH part n) else none)
def chkEdges (CH : Addr) (h : Hall) (part : Nat) (es : List Edge) (most : Nat) (taken : List Edge) : Option Exn := firstX (edgeX CH h part es most taken) 0 es
def doorsE (h : Hall) : List Edge := h.doors.map fun e => edgeFrom e.1 e.2.1 e.2.2
def chkHall (CH : Addr) (h : Hall) : Option Exn :=
  (if !decide (1 ≤ h.rows ∧ h.rows ≤ 5) then some (exH CH (0 : Nat) (0 : Nat)) else none).or ((if !decide (1 ≤ h.cols ∧ h.cols ≤ 5) then some (exH CH (1 : Nat) (0 : Nat)) else none).or ((chkEdges CH h 2 h.walls 24 []).or (chkEdges CH h 3 (doorsE h) 6 h.walls)))
def cellX (CC : Addr) (h : Hall) (cs : List Cell) (n : Nat) (c : Cell) : Option Exn := if decide (n = 3) || (!inH h c || decide (c ∈ cs.take n)) then some (exC CC (n : Nat)) else none
def chkCells (CC : Addr) (h : Hall) (cs : List Cell) : Option Exn := (if decide (cs.length = 0) then some (exC CC (0 : Nat)) else none).or (firstX (cellX CC h cs) 0 cs)
def chkStart (CH CC : Addr) (h : Hall) (cs : List Cell) : Option Exn := (chkHall CH h).or (chkCells CC h cs)
def RX_edges (CH : Addr) (ds : List PyData) (o : Out) : Prop := ∃ (h : Hall) (part : Nat) (es taken : List Edge) (most : Nat) (c : PyData),
  ds = [hallD h, .int (part : Nat), c, .int (most : Nat), .tuple (taken.map edgeD)] ∧ (c = .tuple (es.map edgeD) ∨ c = .list (es.map edgeD)) ∧ part < 4 ∧ most < 30 ∧ es.length ≤ 100000 ∧ o = outX (chkEdges CH h part es most taken)
section
variable {K : PySem.W.Frag} {CH CC : Addr} {E : XK}
theorem rx_edges {ds : List PyData} {o : Out} (hR : RX_edges CH ds o) : ∃ x ρ', o = outX x ∧ XD (rx_check_edges K CH E (spR R_is_edge)) E (ds.map some ++ List.replicate (7 - ds.length) none) ρ' x := by
  obtain ⟨h, part, es, taken, most, c, rfl, hc, hp, hm, hl, rfl⟩ := hR
  refine ⟨_, [some (hallD h), some (.int (part : Nat)), some c, some (.int (most : Nat)), some (.tuple (taken.map edgeD)), none, none], rfl, ?_⟩
  show XD _ E [some (hallD h), some (.int (part : Nat)), some c, some (.int (most : Nat)), some (.tuple (taken.map edgeD)), none, none] _ _
  have hi : IE (iEnumX K (tCons (tVar 2) tNil)) [some (hallD h), some (.int (part : Nat)), some c, some (.int (most : Nat)), some (.tuple (taken.map edgeD)), none, none] (es.zipIdx.map fun p => .tuple [.int p.2, edgeD p.1]) := by
    have e : (es.map edgeD).zipIdx.map (fun p => PyData.tuple [.int (p.2 : Nat), p.1]) = es.zipIdx.map fun p => .tuple [.int p.2, edgeD p.1] := by
      rw [List.zipIdx_map, List.map_map]
      rfl
    rw [← e]
    rcases hc with rfl | rfl
    · exact ie_enumT (ea_cons (ed_var rfl) ea_nil)
    · exact ie_enumL (ea_cons (ed_var rfl) ea_nil)
  have hz : ∀ (n : Nat) (l : List Edge), firstX (fun n (p : Edge × Nat) => edgeX CH h part es most taken n p.1) n (l.zipIdx n) = firstX (edgeX CH h part es most taken) n l := by
    intro n l
    induction l generalizing n with
    | nil => rfl
    | cons e l ih =>
      rw [List.zipIdx_cons]
      show Option.or _ _ = Option.or _ _
      rw [ih]
  refine xd_is (xd_for (fun p : Edge × Nat => .tuple [.int p.2, edgeD p.1]) (fun n p => edgeX CH h part es most taken n p.1) hi fun n x hx hprev => ?_) (hz 0 es)
  rw [List.getElem?_zipIdx] at hx
  cases hxe : es[n]? with
  | none => rw [hxe] at hx; simp at hx
  | some e =>
    rw [hxe] at hx
    simp at hx
    subst hx
    have hnl : n < es.length := (List.getElem?_eq_some_iff.mp hxe).1
    have hnm : n ≤ most := by
      refine Nat.le_of_not_lt fun hlt => ?_
      have hme : es[most]? = some es[most] := List.getElem?_eq_getElem (by omega)
      have := hprev most (es[most], most) hlt (by rw [List.getElem?_zipIdx, hme]; simp)
      simp [edgeX] at this
    have hok : initOkH (part : Nat) (n : Nat) = true := initOkH_lt part hp n (by omega)
    refine ⟨[some (hallD h), some (.int (part : Nat)), some c, some (.int (most : Nat)), some (.tuple (taken.map edgeD)), some (.int (n : Nat)), some (edgeD e)], [5, 6], gd_tup (gds_cons (gd_name (by simp)) (gds_cons (gd_name (by simp)) gds_nil)) rfl, ?_⟩
    refine xd_less (ρ' := [some (hallD h), some (.int (part : Nat)), some c, some (.int (most : Nat)), some (.tuple (taken.map edgeD)), some (.int (n : Nat)), some (edgeD e)]) ?_ (((Rle.refl [some (hallD h), some (.int (part : Nat)), some c, some (.int (most : Nat)), some (.tuple (taken.map edgeD)), none, none]).set (i := 5) (o := some (.int (n : Nat))) rfl).set (i := 6) rfl)
    have t1 : ET (tOr (tTest (tOp (rEqD K) (tVar 5) (tVar 3))) (tNot (tB (tCallD (spR R_is_edge) (tCons (tVar 0) (tCons (tVar 6) tNil))))))
        [some (hallD h), some (.int (part : Nat)), some c, some (.int (most : Nat)), some (.tuple (taken.map edgeD)), some (.int (n : Nat)), some (edgeD e)] (decide (n = most) || !isEdge h e) := by
      refine ET.is (et_or (et_test (ed_op (ed_var rfl) (ed_var rfl) (r2_eq (sh_int _) (sh_int _)))) fun _ => et_not (et_B (ed_call (ea_cons (ed_var rfl) (ea_cons (ed_var rfl) ea_nil)) (.mk h e)))) ?_
      rw [eqv_int]
      congr 1
      exact decide_eq_decide.mpr (by omega)
    refine xd_seq (xd_ifR t1 fun _ => xd_raiseH (ed_var rfl) (ed_var rfl) hok) (xd_ifR (et_or (a := decide (e ∈ taken)) (b := decide (e ∈ es.take n)) (et_test (ED.is (ed_op (ed_var rfl) (ed_var rfl) (r2_inT (neg := false) (sh_edge _) (sh_edges _))) (congrArg PyData.bool (any_edge _ _)))) fun _ => et_test ?_) fun _ => xd_raiseH (ed_var rfl) (ed_var rfl) hok)
    have hz : ((es.take n).map edgeD) = cutD (es.map edgeD) none (some (n : Int)) := by
      rw [cut_take _ _ (by rw [List.length_map]; omega), List.map_take]
    rcases hc with rfl | rfl
    · refine ED.is (ed_op (ed_var rfl) (ED.is (d' := .tuple ((es.take n).map edgeD)) (ed_slT (ed_var rfl) eo_none (eo_some (ed_var rfl))) (by rw [hz])) (r2_inT (neg := false) (sh_edge _) (sh_edges _))) (congrArg PyData.bool (any_edge _ _))
    · refine ED.is (ed_op (ed_var rfl) (ED.is (d' := .list ((es.take n).map edgeD)) (ed_slL (ed_var rfl) eo_none (eo_some (ed_var rfl))) (by rw [hz])) (r2_inL (neg := false) (sh_edge _) (sh_edgesL _))) (congrArg PyData.bool (any_edge _ _))
def WaysOk (h : Hall) : Prop := ∀ e ∈ h.doors, Way e.2.2
def RX_hall (CH : Addr) (ds : List PyData) (o : Out) : Prop := ∃ h : Hall, ds = [hallD h] ∧ WaysOk h ∧ h.walls.length ≤ 10000 ∧ h.doors.length ≤ 10000 ∧ o = outX (chkHall CH h)
theorem rx_hall {ds : List PyData} {o : Out} (hR : RX_hall CH ds o) : ∃ x ρ', o = outX x ∧ XD (rx_check_hall K CH E (spR R_door_edge) (spR R_is_side) (spO (RX_edges CH))) E (ds.map some ++ List.replicate (6 - ds.length) none) ρ' x := by
  obtain ⟨h, rfl, hw, lw, ld, rfl⟩ := hR
  refine ⟨_, [some (hallD h), some (.int h.rows), some (.int h.cols), some (.tuple (h.walls.map edgeD)), some (.tuple (h.doors.map edgeD)), none], rfl, ?_⟩
  show XD _ E [some (hallD h), none, none, none, none, none] _ _
  refine xd_seq2 (sd_ifNo (ET.is (by walk_at "ed") (by simp [eqv_int]))) ?_
  refine xd_seq2 (sd_asg (d := hallD h) (by walk_at "ed") (gd_tup (vs := [1, 2, 3, 4]) (gds_cons (gd_name (by simp)) (gds_cons (gd_name (by simp)) (gds_cons (gd_name (by simp)) (gds_cons (gd_name (by simp)) gds_nil)))) rfl)) ?_
  refine xd_seq (xd_ifR (et_not (et_B (ed_call (by walk_at "ed") (.mk h.rows)))) fun _ => xd_raiseH ed_int ed_int (initOkH_lt 0 (by decide) 0 (by decide))) ?_
  refine xd_seq (xd_ifR (et_not (et_B (ed_call (by walk_at "ed") (.mk h.cols)))) fun _ => xd_raiseH ed_int ed_int (initOkH_lt 1 (by decide) 0 (by decide))) ?_
  refine xd_seq2 (sd_ifNo (ET.is (by walk_at "ed") (by rfl))) ?_
  refine xd_seq (xd_call (ea_cons (ed_var rfl) (ea_cons ed_int (ea_cons (ed_var rfl) (ea_cons ed_int (ea_cons (ed_tup ea_nil (by simp)) ea_nil))))) ⟨h, 2, h.walls, [], 24, _, rfl, .inl rfl, by decide, by decide, by omega, rfl⟩) ?_
  refine xd_seq2 (sd_ifNo (ET.is (by walk_at "ed") (by rfl))) ?_
  refine xd_call (x := chkEdges CH h 3 (doorsE h) 6 h.walls) (ea_cons (ed_var rfl) (ea_cons ed_int (ea_cons (d := .list ((doorsE h).map edgeD)) ?_ (ea_cons ed_int (ea_cons (ed_var rfl) ea_nil))))) ⟨h, 3, doorsE h, h.walls, 6, _, rfl, .inr rfl, by decide, by decide, by unfold doorsE; rw [List.length_map]; omega, rfl⟩
  refine ED.is (ed_lcM h.doors edgeD (fun e => edgeD (edgeFrom e.1 e.2.1 e.2.2)) (ie_tup (ed_var rfl)) (by omega) fun e he => ⟨_, gd_name (by simp), ed_call (ea_cons (ed_var rfl) ea_nil) (.mk e (hw e he))⟩) ?_
  unfold doorsE
  rw [List.map_map]
  rfl
def RX_cells (CC : Addr) (ds : List PyData) (o : Out) : Prop := ∃ (h : Hall) (cs : List Cell), ds = [hallD h, cellsD cs] ∧ cs.length ≤ 10000 ∧ o = outX (chkCells CC h cs)
theorem rx_cells {ds : List PyData} {o : Out} (hR : RX_cells CC ds o) : ∃ x ρ', o = outX x ∧ XD (rx_check_cells K CC E (spR R_is_cell)) E (ds.map some ++ List.replicate (4 - ds.length) none) ρ' x := by
  obtain ⟨h, cs, rfl, lc, rfl⟩ := hR
  refine ⟨_, [some (hallD h), some (cellsD cs), none, none], rfl, ?_⟩
  show XD _ E [some (hallD h), some (cellsD cs), none, none] _ _
  refine xd_seq (xd_ifR (ET.is (by walk_at "ed") (by rw [eqv_int]; simp)) fun _ => xd_raiseC ed_int (initOkC_lt 0 (by decide))) ?_
  have hi : IE (iEnumX K (tCons (tVar 1) tNil)) [some (hallD h), some (cellsD cs), none, none] (cs.zipIdx.map fun p => .tuple [.int p.2, cellD p.1]) := by
    have e : (cs.map cellD).zipIdx.map (fun p => PyData.tuple [.int (p.2 : Nat), p.1]) = cs.zipIdx.map fun p => .tuple [.int p.2, cellD p.1] := by
      rw [List.zipIdx_map, List.map_map]
      rfl
    rw [← e]
    exact ie_enumT (ea_cons (ed_var rfl) ea_nil)
  have hz : ∀ (n : Nat) (l : List Cell), firstX (fun n (p : Cell × Nat) => cellX CC h cs n p.1) n (l.zipIdx n) = firstX (cellX CC h cs) n l := by
    intro n l
    induction l generalizing n with
    | nil => rfl
    | cons e l ih =>
      rw [List.zipIdx_cons]
      show Option.or _ _ = Option.or _ _
      rw [ih]
  refine xd_is (xd_for (fun p : Cell × Nat => .tuple [.int p.2, cellD p.1]) (fun n p => cellX CC h cs n p.1) hi fun n x hx hprev => ?_) (hz 0 cs)
  rw [List.getElem?_zipIdx] at hx
  cases hxe : cs[n]? with
  | none => rw [hxe] at hx; simp at hx
  | some e =>
    rw [hxe] at hx
    simp at hx
    subst hx
    have hnl : n < cs.length := (List.getElem?_eq_some_iff.mp hxe).1
    have hnm : n ≤ 3 := by
      refine Nat.le_of_not_lt fun hlt => ?_
      have hme : cs[3]? = some cs[3] := List.getElem?_eq_getElem (by omega)
      have := hprev 3 (cs[3], 3) hlt (by rw [List.getElem?_zipIdx, hme]; simp)
      simp [cellX] at this
    refine ⟨[some (hallD h), some (cellsD cs), some (.int (n : Nat)), some (cellD e)], [2, 3], gd_tup (gds_cons (gd_name (by simp)) (gds_cons (gd_name (by simp)) gds_nil)) rfl, ?_⟩
    refine xd_less (ρ' := [some (hallD h), some (cellsD cs), some (.int (n : Nat)), some (cellD e)]) ?_ (((Rle.refl [some (hallD h), some (cellsD cs), none, none]).set (i := 2) (o := some (.int (n : Nat))) rfl).set (i := 3) rfl)
    refine xd_ifR (et_or (a := decide (n = 3)) (et_test (ED.is (ed_op (ed_var rfl) ed_int (r2_eq (sh_int _) (sh_int _))) ?_)) fun _ => et_or (a := !inH h e) (b := decide (e ∈ cs.take n)) (et_not (et_B (ed_call (ea_cons (ed_var rfl) (ea_cons (ed_var rfl) ea_nil)) (.mk h e)))) fun _ => et_test (ED.is (ed_op (ed_var rfl) (ED.is (d' := .tuple ((cs.take n).map cellD)) (ed_slT (ed_var rfl) eo_none (eo_some (ed_var rfl))) ?_) (r2_inT (neg := false) (sh_cell _) (sh_cells _))) (congrArg PyData.bool (any_cell _ _)))) fun _ => xd_raiseC (ed_var rfl) (initOkC_lt n (by omega))
    · rw [eqv_int]
      exact congrArg PyData.bool (decide_eq_decide.mpr (by omega))
    · rw [cut_take _ _ (by rw [List.length_map]; omega), List.map_take]
def RX_start (CH CC : Addr) (ds : List PyData) (o : Out) : Prop := ∃ (h : Hall) (cs : List Cell), ds = [hallD h, cellsD cs] ∧ WaysOk h ∧ h.walls.length ≤ 10000 ∧ h.doors.length ≤ 10000 ∧ cs.length ≤ 10000 ∧ o = outX (chkStart CH CC h cs)
theorem rx_start {ds : List PyData} {o : Out} (hR : RX_start CH CC ds o) : ∃ x ρ', o = outX x ∧ XD (rx_check_start K E (spO (RX_cells CC)) (spO (RX_hall CH))) E (ds.map some ++ List.replicate (2 - ds.length) none) ρ' x := by
  obtain ⟨h, cs, rfl, hw, lw, ld, lc, rfl⟩ := hR
  refine ⟨_, [some (hallD h), some (cellsD cs)], rfl, ?_⟩
  exact xd_seq (xd_call (ea_cons (ed_var rfl) ea_nil) ⟨h, rfl, hw, lw, ld, rfl⟩) (xd_call (ea_cons (ed_var rfl) (ea_cons (ed_var rfl) ea_nil)) ⟨h, cs, rfl, lc, rfl⟩)
/-! what passes -/
theorem firstX_none {α : Type} {f : Nat → α → Option Exn} : ∀ {xs : List α} {n : Nat}, firstX f n xs = none → ∀ m x, xs[m]? = some x → f (n + m) x = none
  | [], _, _, m, x, hx => by simp at hx
  | y :: xs, n, h, m, x, hx => by
    have h : (f n y).or (firstX f (n + 1) xs) = none := h
    rw [Option.or_eq_none_iff] at h
    cases m with
    | zero =>
      simp at hx
      subst hx
      exact h.1
    | succ m =>
      have := firstX_none h.2 m x (by simpa using hx)
      rw [show n + 1 + m = n + (m + 1) by omega] at this
      exact this
theorem nodup_take {α : Type} {xs : List α} (h : ∀ n x, xs[n]? = some x → x ∉ xs.take n) : xs.Nodup := by
  rw [List.nodup_iff_pairwise_ne, List.pairwise_iff_getElem]
  intro i j hi hj hij e
  refine h j xs[j] (List.getElem?_eq_getElem hj) ?_
  rw [← e]
  refine List.mem_iff_getElem.mpr ⟨i, by rw [List.length_take]; omega, ?_⟩
  rw [List.getElem_take]
theorem chkEdges_none {h : Hall} {part : Nat} {es taken : List Edge} {most : Nat} (e : chkEdges CH h part es most taken = none) : es.length ≤ most ∧ (∀ x ∈ es, isEdge h x = true) ∧ (∀ x ∈ es, x ∉ taken) ∧ es.Nodup := by
  have k : ∀ n x, es[n]? = some x → n ≠ most ∧ isEdge h x = true ∧ x ∉ taken ∧ x ∉ es.take n := fun n x hx => by
    have := firstX_none e n x hx
    rw [Nat.zero_add] at this
    unfold edgeX at this
    rw [Option.or_eq_none_iff] at this
    obtain ⟨h1, h2⟩ := this
    split at h1
    · cases h1
    · rename_i q1
      split at h2
      · cases h2
      · rename_i q2
        simp at q1 q2
        exact ⟨q1.1, q1.2, q2.1, q2.2⟩
  have m : ∀ x ∈ es, ∃ n : Nat, es[n]? = some x := fun x hx => List.mem_iff_getElem?.mp hx
  refine ⟨Nat.le_of_not_lt fun hlt => ?_, fun x hx => ?_, fun x hx => ?_, nodup_take fun n x hx => (k n x hx).2.2.2⟩
  · exact (k most es[most] (List.getElem?_eq_getElem hlt)).1 rfl
  · obtain ⟨n, hn⟩ := m x hx
    exact (k n x hn).2.1
  · obtain ⟨n, hn⟩ := m x hx
    exact (k n x hn).2.2.1
theorem chk_ok {h : Hall} {cs : List Cell} (hw : WaysOk h) (e : chkStart CH CC h cs = none) : HallOk h ∧ CellsOk h cs := by
  unfold chkStart chkHall chkCells at e
  simp only [Option.or_eq_none_iff] at e
  obtain ⟨⟨e1, e2, e3, e4⟩, e5, e6⟩ := e
  obtain ⟨a1, a2, _, a4⟩ := chkEdges_none e3
  obtain ⟨b1, b2, b3, b4⟩ := chkEdges_none e4
  have r1 : 1 ≤ h.rows ∧ h.rows ≤ 5 := by
    split at e1
    · cases e1
    · rename_i q
      simpa using q
  have r2 : 1 ≤ h.cols ∧ h.cols ≤ 5 := by
    split at e2
    · cases e2
    · rename_i q
      simpa using q
  have mm : ∀ x ∈ h.doors, edgeFrom x.1 x.2.1 x.2.2 ∈ doorsE h := fun x hx => List.mem_map_of_mem hx
  refine ⟨⟨r1, r2, a1, by unfold doorsE at b1; rw [List.length_map] at b1; exact b1, a2, a4, hw, fun x hx => b2 _ (mm x hx), fun x hx => b3 _ (mm x hx), b4⟩, ?_⟩
  have k : ∀ n x, cs[n]? = some x → n ≠ 3 ∧ inH h x = true ∧ x ∉ cs.take n := fun n x hx => by
    have := firstX_none e6 n x hx
    rw [Nat.zero_add] at this
    unfold cellX at this
    split at this
    · cases this
    · rename_i q
      simp at q
      exact q
  refine ⟨fun z => ?_, Nat.le_of_not_lt fun hlt => (k 3 cs[3] (List.getElem?_eq_getElem hlt)).1 rfl, fun x hx => ?_, nodup_take fun n x hx => (k n x hx).2.2⟩
  · subst z
    simp at e5
  · obtain ⟨n, hn⟩ := List.mem_iff_getElem?.mp hx
    exact (k n x hn).2.1
/-! may -/
def RX_may (CH CC : Addr) (ds : List PyData) (o : Out) : Prop := ∃ (h : Hall) (cs : List Cell), ds = [hallD h, cellsD cs] ∧ WaysOk h ∧ h.walls.length ≤ 10000 ∧ h.doors.length ≤ 10000 ∧ cs.length ≤ 10000 ∧ o = thenO (chkStart CH CC h cs) (.ok (.list ((movesD h (firstS h cs)).map fstD)))
theorem rx_may_ok {ds : List PyData} {o : Out} (hR : RX_may CH CC ds o) : OD (rx_may K E (spR R_first_standing) (spR R_moves) (spO (RX_start CH CC))) E (ds.map some ++ List.replicate (3 - ds.length) none) o := by
  obtain ⟨h, cs, rfl, hw, lw, ld, lc, rfl⟩ := hR
  refine od_seq (xd_call (ea_cons (ed_var rfl) (ea_cons (ed_var rfl) ea_nil)) ⟨h, cs, rfl, hw, lw, ld, lc, rfl⟩) fun hn => ?_
  obtain ⟨o, oc⟩ := chk_ok hw hn
  have so := sok_first o oc
  have nd := o.ndoors
  refine od_ret (ed_lcM (movesD h (firstS h cs)) (fun d => d) fstD ?_ (Nat.le_trans (movesD_len _ _ so.ncells) (by omega)) fun d hd => ⟨_, gd_name (by simp), ?_⟩)
  · rw [List.map_id']
    exact ie_list (ed_call (ea_cons (ed_var rfl) (ea_cons (ed_call (ea_cons (ed_var rfl) (ea_cons (ed_var rfl) ea_nil)) (.mk h cs (by omega))) ea_nil)) (.mk h (firstS h cs) so))
  · obtain ⟨m, rfl⟩ := movesD_shape _ _ d hd
    exact ed_op (ed_var rfl) ed_int (r2_ixT rfl)
end
end Pd
/-! SemJ0 -/
set_option Elab.async false
set_option linter.all false
set_option maxRecDepth 100000
set_option maxHeartbeats 4000000
namespace Pd
variable [Pd.Wd]
open PySem PySem.Spec PyProof.Rows L2 PySem.W
local macro_rules | `(tactic| walk_at "ed") => `(tactic| repeat' (first
  | with_reducible (first
    | exact ed_int | exact ed_str | exact ed_bl | exact ed_non
    | exact ea_nil | refine' ea_cons ?_ ?_
    | refine' ed_isi ?_ ?_ | refine' ed_isi2 ?_ ?_ ?_
    | refine' ed_andV ?_ (fun _ => ?_) | refine' ed_orV ?_ (fun _ => ?_) | refine' ed_notV ?_
    | refine' ed_chain ?_ ?_ ?_ (fun _ => ⟨?_, ?_⟩)
    | refine' ed_tup ?_ ?_ | refine' ed_lst ?_ ?_
    | refine' et_not ?_ | refine' et_and ?_ (fun _ => ?_) | refine' et_or ?_ (fun _ => ?_) | exact et_yes
    | refine' et_test ?_ | refine' et_B ?_
    | refine' ed_op ?_ ?_ ?_
    | refine' ed_cb ?_ ?_)
  | exact ed_var rfl
  | exact kit_tt | exact kit_ii | exact kit_ib | exact kit_ll | exact kit_lt | exact kit_tl
  | exact r2_addI | exact r2_subI | exact r2_lt | exact r2_le | exact r2_gt | exact r2_ge | exact r2_isN | exact r2_notN
  | exact rc_lenT | exact rc_lenL | exact rc_intB | exact rc_tupL
  | with_reducible (first | refine' r2_eq ?_ ?_ | refine' r2_ne ?_ ?_)
  | exact sh_int _ | exact sh_sg _ | exact sh_cell _ | exact sh_edge _ | exact sh_pair _ | exact sh_str _ (by decide +kernel)
  | exact r2_ixT rfl | exact r2_ixL rfl
  | refine' ed_tup ?_ ?_
  | (show List.length _ ≤ 100000; simp; done)))
/-! ### numbers, sides, cells, edges: of any data -/
def numG : PyData → Bool
  | .int _ => true
  | _ => false
def NoDict (d : PyData) : Prop := ∀ kvs, d ≠ .dict kvs
def sideG : PyData → Bool
  | .int i => decide (1 ≤ i ∧ i ≤ 5)
  | _ => false
def in2 (r c a b : Int) : Bool := decide (0 ≤ a ∧ a < r ∧ 0 ≤ b ∧ b < c)
def cellG (r c : Int) : PyData → Bool
  | .tuple [.int a, .int b] => in2 r c a b
  | _ => false
def edgeG (r c : Int) : PyData → Bool
  | .tuple [.int a, .int b, s] => in2 r c a b && (if PyData.eqv s (.str "-") then decide (0 < a) else PyData.eqv s (.str "|") && decide (0 < b))
  | _ => false
/-- a hall, of which the sides are known -/
def hallR2 (r c : Int) (x y : PyData) : PyData := .tuple [.int r, .int c, x, y]
inductive R_numG : List PyData → PyData → Prop | mk (d : PyData) (h : NoDict d) : R_numG [d] (.bool (numG d))
inductive R_sideG : List PyData → PyData → Prop | mk (d : PyData) (h : NoDict d) : R_sideG [d] (.bool (sideG d))
inductive R_cellG : List PyData → PyData → Prop | mk (r c : Int) (x y d : PyData) (h : NoDict d) (hs : ∀ ds, d = .tuple ds → ∀ z ∈ ds, NoDict z) : R_cellG [hallR2 r c x y, d] (.bool (cellG r c d))
inductive R_edgeG : List PyData → PyData → Prop | mk (r c : Int) (x y d : PyData) (h : NoDict d) (hs : ∀ ds, d = .tuple ds → ∀ z ∈ ds, NoDict z ∧ SeqAt.shaped z = true) : R_edgeG [hallR2 r c x y, d] (.bool (edgeG r c d))
theorem kit_ni : kitB "NoneType" "int" = some false := by decide +kernel
theorem kit_bi : kitB "bool" "int" = some true := by decide +kernel
theorem kit_bb : kitB "bool" "bool" = some true := by decide +kernel
theorem kit_si : kitB "str" "int" = some false := by decide +kernel
theorem kit_li : kitB "list" "int" = some false := by decide +kernel
theorem kit_ti : kitB "tuple" "int" = some false := by decide +kernel
theorem kit_bt : kitB "bool" "tuple" = some false := by decide +kernel
section
variable {K : PySem.W.Frag}
theorem rp_numG {ds : List PyData} {d : PyData} (h : R_numG ds d) : RD (rd_is_number K) (ds.map some ++ List.replicate (1 - ds.length) none) d := by
  obtain ⟨d, h⟩ := h
  have no : kitB (tyN d) "int" = some false → numG d = false → RD (rd_is_number K) [some d] (.bool (numG d)) := fun k e => by
    rw [e]
    exact rd_ret (ED.is (ed_andV (a := false) (b := false) (ed_isi (ed_var rfl) k) fun z => nomatch z) rfl)
  have yes : ∀ b, kitB (tyN d) "int" = some true → kitB (tyN d) "bool" = some b → numG d = !b → RD (rd_is_number K) [some d] (.bool (numG d)) := fun b k1 k2 e => by
    rw [e]
    exact rd_ret (ED.is (ed_andV (a := true) (b := !b) (ed_isi (ed_var rfl) k1) fun _ => ed_notV (ed_isi (ed_var rfl) k2)) rfl)
  cases d with
  | none => exact no kit_ni rfl
  | bool b => exact yes true kit_bi kit_bb rfl
  | int i => exact yes false kit_ii kit_ib rfl
  | str s => exact no kit_si rfl
  | list xs => exact no kit_li rfl
  | tuple xs => exact no kit_ti rfl
  | dict kvs => exact absurd rfl (h kvs)
theorem sideG_num {d : PyData} (h : numG d = false) : sideG d = false := by
  cases d <;> first | rfl | cases h
theorem numG_int {d : PyData} (h : numG d = true) : ∃ i, d = .int i := by
  cases d <;> first | exact ⟨_, rfl⟩ | cases h
theorem rp_sideG {ds : List PyData} {d : PyData} (h : R_sideG ds d) : RD (rd_is_side K (spR R_numG)) (ds.map some ++ List.replicate (1 - ds.length) none) d := by
  obtain ⟨d, h⟩ := h
  have h1 : ED (tCallD (spR R_numG) (tCons (tVar 0) tNil)) [some d] (.bool (numG d)) := ed_call (ea_cons (ed_var rfl) ea_nil) (.mk d h)
  cases hn : numG d with
  | false =>
    rw [hn] at h1
    refine rd_ret (ED.is (ed_andV (a := false) (b := false) h1 fun z => nomatch z) ?_)
    rw [sideG_num hn]
    rfl
  | true =>
    obtain ⟨i, rfl⟩ := numG_int hn
    refine rd_ret (ED.is (ed_andV (a := true) h1 fun _ => ed_chain ed_int (ed_var rfl) r2_le fun _ => ⟨ed_int, r2_le⟩) ?_)
    refine congrArg PyData.bool ?_
    show _ = decide (1 ≤ i ∧ i ≤ 5)
    by_cases a : 1 ≤ i <;> by_cases b : i ≤ 5 <;> simp [a, b]
theorem isT {d : PyData} (h : NoDict d) : kitB (tyN d) "tuple" = some (match d with | .tuple _ => true | _ => false) := by
  cases d with
  | none => exact kit_nt
  | bool b => exact kit_bt
  | int i => exact kit_it
  | str s => exact kit_st
  | list xs => exact kit_lt
  | tuple xs => exact kit_tt
  | dict kvs => exact absurd rfl (h kvs)
/-- not isinstance(x, tuple) or len(x) != n -/
theorem et_tupN {ρ : Rho} {i n : Nat} {d : PyData} (hi : ρ[i]? = some (some d)) (h : NoDict d) :
    ∃ b, ET (tOr (tNot (tB (tCB (rIsi K) (tCons (tVar i) (tCons (tC (.ty "tuple")) tNil))))) (tTest (tOp (rNeD K) (tCB (rLenX K) (tCons (tVar i) tNil)) (tC (.int (n : Nat)))))) ρ b ∧ (b = true → ∀ ds, d = .tuple ds → ds.length ≠ n) ∧ (b = false → ∃ ds, d = .tuple ds ∧ ds.length = n) := by
  by_cases ht : ∃ ds, d = .tuple ds
  · obtain ⟨ds, rfl⟩ := ht
    refine ⟨!decide (ds.length = n), ET.is (et_or (a := false) (b := !decide (ds.length = n)) (ET.is (et_not (et_B (ed_isi (ed_var hi) kit_tt))) rfl) fun _ => et_test (ED.is (ed_op (ed_cb (ea_cons (ed_var hi) ea_nil) rc_lenT) ed_int (r2_ne (sh_int _) (sh_int _))) ?_)) rfl, fun hb es e => ?_, fun hb => ⟨ds, rfl, by simpa using hb⟩⟩
    · rw [eqv_int]
      refine congrArg PyData.bool (congrArg (!·) (decide_eq_decide.mpr (by omega)))
    · cases e
      simpa using hb
  · refine ⟨true, ET.is (et_or (a := true) (b := false) (ET.is (et_not (et_B (ed_isi (ed_var hi) (isT h)))) ?_) fun z => nomatch z) rfl, fun _ ds e => absurd ⟨ds, e⟩ ht, fun z => nomatch z⟩
    cases d <;> first | rfl | exact absurd ⟨_, rfl⟩ ht
theorem cellG_two {r c : Int} {a b : PyData} (h : numG a = false ∨ numG b = false) : cellG r c (.tuple [a, b]) = false := by
  rcases h with h | h <;> cases a <;> cases b <;> first | rfl | cases h
theorem rp_cellG {ds : List PyData} {d : PyData} (h : R_cellG ds d) : RD (rd_is_cell K (spR R_numG)) (ds.map some ++ List.replicate (4 - ds.length) none) d := by
  obtain ⟨r, c, x, y, d, h, hs⟩ := h
  show RD _ [some (hallR2 r c x y), some d, none, none] _
  obtain ⟨b, hb, h1, h2⟩ := et_tupN (K := K) (ρ := [some (hallR2 r c x y), some d, none, none]) (i := 1) (n := 2) rfl h
  refine rd_ifS hb (fun e => rd_ret (ED.is ed_bl ?_)) fun e => ?_
  · refine congrArg PyData.bool ?_
    have := h1 e
    match d, this with
    | .tuple [_, _], k => exact absurd rfl (k _ rfl)
    | .tuple [], _ => rfl
    | .tuple [z], _ => cases z <;> rfl
    | .tuple (z :: w :: _ :: _), _ => cases z <;> cases w <;> rfl
    | .none, _ => rfl
    | .bool _, _ => rfl
    | .int _, _ => rfl
    | .str _, _ => rfl
    | .list _, _ => rfl
    | .dict _, _ => rfl
  obtain ⟨es, rfl, hl⟩ := h2 e
  match es, hl with
  | [p, q], _ =>
  have hp := hs _ rfl p (by simp)
  have hq := hs _ rfl q (by simp)
  refine rd_seq (sd_asg (d := .tuple [p, q]) (ed_var rfl) (gd_tup (vs := [2, 3]) (gds_cons (gd_name (by simp)) (gds_cons (gd_name (by simp)) gds_nil)) rfl)) ?_
  refine rd_ifS (b := !numG p || !numG q) (et_or (et_not (et_B (ed_call (ea_cons (ed_var rfl) ea_nil) (.mk p hp)))) fun _ => et_not (et_B (ed_call (ea_cons (ed_var rfl) ea_nil) (.mk q hq)))) (fun e => rd_ret (ED.is ed_bl ?_)) fun e => ?_
  · refine congrArg PyData.bool (cellG_two ?_).symm
    simpa using e
  · rw [Bool.or_eq_false_iff] at e
    obtain ⟨a, rfl⟩ := numG_int (show numG p = true by simpa using e.1)
    obtain ⟨b, rfl⟩ := numG_int (show numG q = true by simpa using e.2)
    refine rd_ret (ED.is (ed_andV (ed_chain ed_int (ed_var rfl) r2_le fun _ => ⟨ed_op (d := hallR2 r c x y) (ed_var rfl) ed_int (r2_ixT rfl), r2_lt⟩) fun _ => ed_chain ed_int (ed_var rfl) r2_le fun _ => ⟨ed_op (d := hallR2 r c x y) (ed_var rfl) ed_int (r2_ixT rfl), r2_lt⟩) ?_)
    refine congrArg PyData.bool ?_
    show _ = in2 r c a b
    by_cases h1 : 0 ≤ a <;> by_cases h2 : a < r <;> by_cases h3 : 0 ≤ b <;> by_cases h4 : b < c <;> simp [in2, h1, h2, h3, h4]
theorem edgeG_cell {r c : Int} {a b s : PyData} (h : cellG r c (.tuple [a, b]) = false) : edgeG r c (.tuple [a, b, s]) = false := by
  cases a <;> cases b <;> first | rfl | (show (in2 r c _ _ && _) = false; rw [show in2 r c _ _ = false from h]; rfl)
theorem cellG_ints {r c : Int} {a b : PyData} (h : cellG r c (.tuple [a, b]) = true) : ∃ i j, a = .int i ∧ b = .int j := by
  cases a <;> cases b <;> first | exact ⟨_, _, rfl, rfl⟩ | cases h
theorem rp_edgeG {ds : List PyData} {d : PyData} (h : R_edgeG ds d) : RD (rd_is_edge K (spR R_cellG)) (ds.map some ++ List.replicate (5 - ds.length) none) d := by
  obtain ⟨r, c, x, y, d, h, hs⟩ := h
  show RD _ [some (hallR2 r c x y), some d, none, none, none] _
  obtain ⟨b, hb, h1, h2⟩ := et_tupN (K := K) (ρ := [some (hallR2 r c x y), some d, none, none, none]) (i := 1) (n := 3) rfl h
  refine rd_ifS hb (fun e => rd_ret (ED.is ed_bl ?_)) fun e => ?_
  · refine congrArg PyData.bool ?_
    have := h1 e
    match d, this with
    | .tuple [_, _, _], k => exact absurd rfl (k _ rfl)
    | .tuple [], _ => rfl
    | .tuple [z], _ => cases z <;> rfl
    | .tuple [z, w], _ => cases z <;> cases w <;> rfl
    | .tuple (z :: w :: _ :: _ :: _), _ => cases z <;> cases w <;> rfl
    | .none, _ => rfl
    | .bool _, _ => rfl
    | .int _, _ => rfl
    | .str _, _ => rfl
    | .list _, _ => rfl
    | .dict _, _ => rfl
  obtain ⟨es, rfl, hl⟩ := h2 e
  match es, hl with
  | [p, q, s], _ =>
  have hp := hs _ rfl p (by simp)
  have hq := hs _ rfl q (by simp)
  have hss := hs _ rfl s (by simp)
  refine rd_seq (sd_asg (d := .tuple [p, q, s]) (ed_var rfl) (gd_tup (vs := [2, 3, 4]) (gds_cons (gd_name (by simp)) (gds_cons (gd_name (by simp)) (gds_cons (gd_name (by simp)) gds_nil))) rfl)) ?_
  refine rd_ifS (b := !cellG r c (.tuple [p, q])) (et_not (et_B (ed_call (ea_cons (ed_var rfl) (ea_cons (ed_tup (ea_cons (ed_var rfl) (ea_cons (ed_var rfl) ea_nil)) (by simp)) ea_nil)) (.mk r c x y _ (fun _ z => nomatch z) fun ds e z hz => ?_)))) (fun e => rd_ret (ED.is ed_bl ?_)) fun e => ?_
  · cases e
    simp only [List.mem_cons, List.not_mem_nil, or_false] at hz
    rcases hz with rfl | rfl
    · exact hp.1
    · exact hq.1
  · exact congrArg PyData.bool (edgeG_cell (by simpa using e)).symm
  · have hc : cellG r c (.tuple [p, q]) = true := by simpa using e
    obtain ⟨i, j, rfl, rfl⟩ := cellG_ints hc
    have row : edgeG r c (.tuple [.int i, .int j, s]) = (if PyData.eqv s (.str "-") then decide (0 < i) else PyData.eqv s (.str "|") && decide (0 < j)) := by
      show (in2 r c i j && _) = _
      rw [show in2 r c i j = true from hc]
      rfl
    rw [row]
    refine rd_ifS (b := PyData.eqv s (.str "-")) (et_test (ed_op (ed_var rfl) ed_str (r2_eq hss.2 (sh_str _ (by decide +kernel))))) (fun e => rd_ret (ED.is (ed_op (ed_var rfl) ed_int r2_gt) ?_)) fun e => rd_ret (ED.is (ed_andV (b := decide (0 < j)) (ed_op (ed_var rfl) ed_str (r2_eq hss.2 (sh_str _ (by decide +kernel)))) fun _ => ED.is (ed_op (ed_var rfl) ed_int r2_gt) rfl) ?_)
    · rw [e]
      rfl
    · rw [e]
      rfl
end
end Pd
/-! SemJ1 -/
set_option Elab.async false
set_option linter.all false
set_option maxRecDepth 100000
set_option maxHeartbeats 4000000
namespace Pd
variable [Pd.Wd]
open PySem PySem.Spec PyProof.Rows L2 PySem.W
local macro_rules | `(tactic| walk_at "ed") => `(tactic| repeat' (first
  | with_reducible (first
    | exact ed_int | exact ed_str | exact ed_bl | exact ed_non
    | exact ea_nil | refine' ea_cons ?_ ?_
    | refine' ed_isi ?_ ?_ | refine' ed_isi2 ?_ ?_ ?_
    | refine' ed_andV ?_ (fun _ => ?_) | refine' ed_orV ?_ (fun _ => ?_) | refine' ed_notV ?_
    | refine' ed_chain ?_ ?_ ?_ (fun _ => ⟨?_, ?_⟩)
    | refine' ed_tup ?_ ?_ | refine' ed_lst ?_ ?_
    | refine' et_not ?_ | refine' et_and ?_ (fun _ => ?_) | refine' et_or ?_ (fun _ => ?_) | exact et_yes
    | refine' et_test ?_ | refine' et_B ?_
    | refine' ed_op ?_ ?_ ?_
    | refine' ed_cb ?_ ?_)
  | exact ed_var rfl
  | exact kit_tt | exact kit_ii | exact kit_ib | exact kit_ll | exact kit_lt | exact kit_tl
  | exact r2_addI | exact r2_subI | exact r2_lt | exact r2_le | exact r2_gt | exact r2_ge | exact r2_isN | exact r2_notN
  | exact rc_lenT | exact rc_lenL | exact rc_intB | exact rc_tupL
  | with_reducible (first | refine' r2_eq ?_ ?_ | refine' r2_ne ?_ ?_)
  | exact sh_int _ | exact sh_sg _ | exact sh_cell _ | exact sh_edge _ | exact sh_pair _ | exact sh_str _ (by decide +kernel)
  | exact r2_ixT rfl | exact r2_ixL rfl
  | refine' ed_tup ?_ ?_
  | (show List.length _ ≤ 100000; simp; done)))
/-! ### the edge of a door, of any data -/
def wayOf : PyData → Option Sg
  | .str x => if x = ⟨#[101]⟩ then some .e else if x = ⟨#[110]⟩ then some .n else if x = ⟨#[115]⟩ then some .s else if x = ⟨#[119]⟩ then some .w else none
  | _ => none
def doorG : PyData → Option Edge
  | .tuple [.int a, .int b, s] => (wayOf s).map fun w => edgeFrom a b w
  | _ => none
def optE : Option Edge → PyData
  | none => .none
  | some e => edgeD e
def FlatS (d : PyData) : Prop := (∃ i, d = .int i) ∨ ∃ x, d = .str x
theorem wayOf_some {d : PyData} {w : Sg} (h : wayOf d = some w) : d = sg w ∧ Way w := by
  cases d with
  | str x =>
    unfold wayOf at h
    simp only at h
    split at h
    · cases h; rename_i q; rw [q]; exact ⟨rfl, .inl rfl⟩
    split at h
    · cases h; rename_i q; rw [q]; exact ⟨rfl, .inr (.inl rfl)⟩
    split at h
    · cases h; rename_i q; rw [q]; exact ⟨rfl, .inr (.inr (.inl rfl))⟩
    split at h
    · cases h; rename_i q; rw [q]; exact ⟨rfl, .inr (.inr (.inr rfl))⟩
    · cases h
  | none => cases h
  | bool b => cases h
  | int i => cases h
  | list xs => cases h
  | tuple xs => cases h
  | dict kvs => cases h
inductive R_doorG : List PyData → PyData → Prop | mk (d : PyData) (h : NoDict d) (hs : ∀ a b s, d = .tuple [a, b, s] → NoDict a ∧ NoDict b ∧ FlatS s) : R_doorG [d] (optE (doorG d))
section
variable {K : PySem.W.Frag} {ρ : Rho} {te : TE}
theorem lits4 : [V.str "e", V.str "n", V.str "s", V.str "w"] = [V.str ⟨#[101]⟩, V.str ⟨#[110]⟩, V.str ⟨#[115]⟩, V.str ⟨#[119]⟩] := by
  have h1 : ("e" : Str) = ⟨#[101]⟩ := by decide +kernel
  have h2 : ("n" : Str) = ⟨#[110]⟩ := by decide +kernel
  have h3 : ("s" : Str) = ⟨#[115]⟩ := by decide +kernel
  have h4 : ("w" : Str) = ⟨#[119]⟩ := by decide +kernel
  rw [h1, h2, h3, h4]
theorem ed_notWaysG {aW : Addr} (hT : ∀ H : Hp, SqT K H aW [.str "e", .str "n", .str "s", .str "w"]) {s : PyData} (h : ED te ρ s) (hf : FlatS s) : ED (tOp (rInX K true) te (tC (.ref aW))) ρ (.bool (!(wayOf s).isSome)) := by
  rcases hf with ⟨i, rfl⟩ | ⟨x, rfl⟩
  · intro σ B H ex ev Q q
    refine h σ B H ex ev _ fun v B1 H1 g1 d1 => ?_
    cases d1
    have e : inV (.int i) [.str "e", .str "n", .str "s", .str "w"] = false := rfl
    refine .inr (.inr (.inl ⟨aW, _, rfl, .inr (hT H1), rfl, by decide, ?_⟩))
    rw [e]
    exact q _ B1 H1 g1 (.bl _)
  · refine ED.is (ed_inK (neg := true) h hT (by decide)) ?_
    rw [if_pos rfl]
    refine congrArg PyData.bool (congrArg (!·) ?_)
    rw [lits4]
    show ((_ == x) || ((_ == x) || ((_ == x) || ((_ == x) || false)))) = _
    unfold wayOf
    simp only
    by_cases e1 : x = ⟨#[101]⟩
    · subst e1; rfl
    by_cases e2 : x = ⟨#[110]⟩
    · subst e2; rfl
    by_cases e3 : x = ⟨#[115]⟩
    · subst e3; rfl
    by_cases e4 : x = ⟨#[119]⟩
    · subst e4; rfl
    rw [if_neg e1, if_neg e2, if_neg e3, if_neg e4]
    have n : ∀ y : Str, x ≠ y → (y == x) = false := fun y h => by
      simp only [beq_eq_false_iff_ne, ne_eq]
      exact fun z => h z.symm
    rw [n _ e1, n _ e2, n _ e3, n _ e4]
    rfl
theorem doorG_num {a b s : PyData} (h : numG a = false ∨ numG b = false ∨ wayOf s = none) : doorG (.tuple [a, b, s]) = none := by
  rcases h with h | h | h
  · cases a <;> cases b <;> first | rfl | cases h
  · cases a <;> cases b <;> first | rfl | cases h
  · cases a <;> cases b <;> first | rfl | (show Option.map _ (wayOf s) = none; rw [h]; rfl)
theorem rp_doorG {aW : Addr} (hT : ∀ H : Hp, SqT K H aW [.str "e", .str "n", .str "s", .str "w"]) {ds : List PyData} {d : PyData} (h : R_doorG ds d) : RD (rd_door_edge K aW (spR R_edge_from) (spR R_numG)) (ds.map some ++ List.replicate (4 - ds.length) none) d := by
  obtain ⟨d, h, hs⟩ := h
  show RD _ [some d, none, none, none] _
  obtain ⟨b, hb, h1, h2⟩ := et_tupN (K := K) (ρ := [some d, none, none, none]) (i := 0) (n := 3) rfl h
  refine rd_ifS hb (fun e => rd_ret (ED.is ed_non ?_)) fun e => ?_
  · have := h1 e
    have e : doorG d = none := by
      match d, this with
      | .tuple [_, _, _], k => exact absurd rfl (k _ rfl)
      | .tuple [], _ => rfl
      | .tuple [z], _ => cases z <;> rfl
      | .tuple [z, w], _ => cases z <;> cases w <;> rfl
      | .tuple (z :: w :: _ :: _ :: _), _ => cases z <;> cases w <;> rfl
      | .none, _ => rfl
      | .bool _, _ => rfl
      | .int _, _ => rfl
      | .str _, _ => rfl
      | .list _, _ => rfl
      | .dict _, _ => rfl
    rw [e]
    rfl
  obtain ⟨es, rfl, hl⟩ := h2 e
  match es, hl with
  | [p, q, s], _ =>
  obtain ⟨hp, hq, hf⟩ := hs _ _ _ rfl
  refine rd_seq (sd_asg (d := .tuple [p, q, s]) (ed_var rfl) (gd_tup (vs := [1, 2, 3]) (gds_cons (gd_name (by simp)) (gds_cons (gd_name (by simp)) (gds_cons (gd_name (by simp)) gds_nil))) rfl)) ?_
  refine rd_ifS (b := !numG p || (!numG q || !(wayOf s).isSome)) (et_or (et_not (et_B (ed_call (ea_cons (ed_var rfl) ea_nil) (.mk p hp)))) fun _ => et_or (et_not (et_B (ed_call (ea_cons (ed_var rfl) ea_nil) (.mk q hq)))) fun _ => et_test (ed_notWaysG hT (ed_var rfl) hf)) (fun e => rd_ret (ED.is ed_non ?_)) fun e => ?_
  · have e2 : numG p = false ∨ numG q = false ∨ wayOf s = none := by
      cases h1 : numG p with
      | false => exact .inl rfl
      | true =>
        cases h2 : numG q with
        | false => exact .inr (.inl rfl)
        | true =>
          rw [h1, h2] at e
          refine .inr (.inr ?_)
          cases h3 : wayOf s with
          | none => rfl
          | some w => rw [h3] at e; cases e
    rw [doorG_num e2]
    rfl
  · rw [Bool.or_eq_false_iff, Bool.or_eq_false_iff] at e
    obtain ⟨a, rfl⟩ := numG_int (show numG p = true by simpa using e.1)
    obtain ⟨b, rfl⟩ := numG_int (show numG q = true by simpa using e.2.1)
    obtain ⟨w, hw⟩ := Option.isSome_iff_exists.mp (show (wayOf s).isSome = true by simpa using e.2.2)
    obtain ⟨rfl, hw2⟩ := wayOf_some hw
    have e3 : doorG (.tuple [.int a, .int b, sg w]) = some (edgeFrom a b w) := by
      show Option.map _ (wayOf (sg w)) = _
      rw [hw]
      rfl
    rw [e3]
    exact rd_ret (ed_call (ea_cons (ed_var rfl) (ea_cons (ed_var rfl) (ea_cons (ed_var rfl) ea_nil))) (.mk a b w))
end
end Pd
/-! SemJ2 -/
set_option Elab.async false
set_option linter.all false
set_option maxRecDepth 100000
set_option maxHeartbeats 4000000
namespace Pd
variable [Pd.Wd]
open PySem PySem.Spec PyProof.Rows L2 PySem.W
local macro_rules | `(tactic| walk_at "ed") => `(tactic| repeat' (first
  | with_reducible (first
    | exact ed_int | exact ed_str | exact ed_bl | exact ed_non
    | exact ea_nil | refine' ea_cons ?_ ?_
    | refine' ed_isi ?_ ?_ | refine' ed_isi2 ?_ ?_ ?_
    | refine' ed_andV ?_ (fun _ => ?_) | refine' ed_orV ?_ (fun _ => ?_) | refine' ed_notV ?_
    | refine' ed_chain ?_ ?_ ?_ (fun _ => ⟨?_, ?_⟩)
    | refine' ed_tup ?_ ?_ | refine' ed_lst ?_ ?_
    | refine' et_not ?_ | refine' et_and ?_ (fun _ => ?_) | refine' et_or ?_ (fun _ => ?_) | exact et_yes
    | refine' et_test ?_ | refine' et_B ?_
    | refine' ed_op ?_ ?_ ?_
    | refine' ed_cb ?_ ?_)
  | exact ed_var rfl
  | exact kit_tt | exact kit_ii | exact kit_ib | exact kit_ll | exact kit_lt | exact kit_tl
  | exact r2_addI | exact r2_subI | exact r2_lt | exact r2_le | exact r2_gt | exact r2_ge | exact r2_isN | exact r2_notN
  | exact rc_lenT | exact rc_lenL | exact rc_intB | exact rc_tupL
  | with_reducible (first | refine' r2_eq ?_ ?_ | refine' r2_ne ?_ ?_)
  | exact sh_int _ | exact sh_sg _ | exact sh_cell _ | exact sh_edge _ | exact sh_pair _ | exact sh_str _ (by decide +kernel)
  | exact r2_ixT rfl | exact r2_ixL rfl
  | refine' ed_tup ?_ ?_
  | (show List.length _ ≤ 100000; simp; done)))
/-! ### halls of any data that are looked at -/
structure PcOk (e : PyData) : Prop where
  n : NoDict e
  s : SeqAt.shaped e = true
  c : ∀ ds, e = .tuple ds → ∀ z ∈ ds, NoDict z ∧ SeqAt.shaped z = true
def edgeXG (CH : Addr) (r c : Int) (part : Nat) (es : List PyData) (most : Nat) (taken : List PyData) (n : Nat) (e : PyData) : Option Exn :=
  (if decide (n = most) || !edgeG r c e then some (exH CH part n) else none).or (if (taken.any fun z => PyData.eqv z e) || ((es.take n).any fun z => PyData.eqv z e) then some (exH CH part n) else none)
def chkEdgesG (CH : Addr) (r c : Int) (part : Nat) (es : List PyData) (most : Nat) (taken : List PyData) : Option Exn := firstX (edgeXG CH r c part es most taken) 0 es
def RX_edgesG (CH : Addr) (ds : List PyData) (o : Out) : Prop := ∃ (r c : Int) (x y : PyData) (part : Nat) (es taken : List PyData) (most : Nat) (ce : PyData),
  ds = [hallR2 r c x y, .int (part : Nat), ce, .int (most : Nat), .tuple taken] ∧ (ce = .tuple es ∨ ce = .list es) ∧ part < 4 ∧ most < 30 ∧ (∀ e ∈ es, PcOk e) ∧ (∀ n, SeqAt.shaped (.tuple (es.take n)) = true ∧ SeqAt.shaped (.list (es.take n)) = true) ∧ SeqAt.shaped (.tuple taken) = true ∧ o = outX (chkEdgesG CH r c part es most taken)
section
variable {K : PySem.W.Frag} {CH : Addr} {E : XK}
theorem rx_edgesG {ds : List PyData} {o : Out} (hR : RX_edgesG CH ds o) : ∃ x ρ', o = outX x ∧ XD (rx_check_edges K CH E (spR R_edgeG)) E (ds.map some ++ List.replicate (7 - ds.length) none) ρ' x := by
  obtain ⟨r, c, x, y, part, es, taken, most, ce, rfl, hc, hp, hm, hpc, hsh, hst, rfl⟩ := hR
  refine ⟨_, [some (hallR2 r c x y), some (.int (part : Nat)), some ce, some (.int (most : Nat)), some (.tuple taken), none, none], rfl, ?_⟩
  show XD _ E [some (hallR2 r c x y), some (.int (part : Nat)), some ce, some (.int (most : Nat)), some (.tuple taken), none, none] _ _
  have hi : IE (iEnumX K (tCons (tVar 2) tNil)) [some (hallR2 r c x y), some (.int (part : Nat)), some ce, some (.int (most : Nat)), some (.tuple taken), none, none] (es.zipIdx.map fun p => .tuple [.int p.2, p.1]) := by
    rcases hc with rfl | rfl
    · exact ie_enumT (ea_cons (ed_var rfl) ea_nil)
    · exact ie_enumL (ea_cons (ed_var rfl) ea_nil)
  have hz : ∀ (n : Nat) (l : List PyData), firstX (fun n (p : PyData × Nat) => edgeXG CH r c part es most taken n p.1) n (l.zipIdx n) = firstX (edgeXG CH r c part es most taken) n l := by
    intro n l
    induction l generalizing n with
    | nil => rfl
    | cons e l ih =>
      rw [List.zipIdx_cons]
      show Option.or _ _ = Option.or _ _
      rw [ih]
  refine xd_is (xd_for (fun p : PyData × Nat => .tuple [.int p.2, p.1]) (fun n p => edgeXG CH r c part es most taken n p.1) hi fun n x' hx hprev => ?_) (hz 0 es)
  rw [List.getElem?_zipIdx] at hx
  cases hxe : es[n]? with
  | none => rw [hxe] at hx; simp at hx
  | some e =>
    rw [hxe] at hx
    simp at hx
    subst hx
    have hnl : n < es.length := (List.getElem?_eq_some_iff.mp hxe).1
    have he := hpc e (List.mem_of_getElem? hxe)
    have hnm : n ≤ most := by
      refine Nat.le_of_not_lt fun hlt => ?_
      have hme : es[most]? = some es[most] := List.getElem?_eq_getElem (by omega)
      have := hprev most (es[most], most) hlt (by rw [List.getElem?_zipIdx, hme]; simp)
      simp [edgeXG] at this
    have hok : initOkH (part : Nat) (n : Nat) = true := initOkH_lt part hp n (by omega)
    refine ⟨[some (hallR2 r c x y), some (.int (part : Nat)), some ce, some (.int (most : Nat)), some (.tuple taken), some (.int (n : Nat)), some e], [5, 6], gd_tup (gds_cons (gd_name (by simp)) (gds_cons (gd_name (by simp)) gds_nil)) rfl, ?_⟩
    refine xd_less (ρ' := [some (hallR2 r c x y), some (.int (part : Nat)), some ce, some (.int (most : Nat)), some (.tuple taken), some (.int (n : Nat)), some e]) ?_ (((Rle.refl [some (hallR2 r c x y), some (.int (part : Nat)), some ce, some (.int (most : Nat)), some (.tuple taken), none, none]).set (i := 5) (o := some (.int (n : Nat))) rfl).set (i := 6) rfl)
    have t1 : ET (tOr (tTest (tOp (rEqD K) (tVar 5) (tVar 3))) (tNot (tB (tCallD (spR R_edgeG) (tCons (tVar 0) (tCons (tVar 6) tNil))))))
        [some (hallR2 r c x y), some (.int (part : Nat)), some ce, some (.int (most : Nat)), some (.tuple taken), some (.int (n : Nat)), some e] (decide (n = most) || !edgeG r c e) := by
      refine ET.is (et_or (et_test (ed_op (ed_var rfl) (ed_var rfl) (r2_eq (sh_int _) (sh_int _)))) fun _ => et_not (et_B (ed_call (ea_cons (ed_var rfl) (ea_cons (ed_var rfl) ea_nil)) (.mk r c x y e he.n he.c)))) ?_
      rw [eqv_int]
      congr 1
      exact decide_eq_decide.mpr (by omega)
    refine xd_seq (xd_ifR t1 fun _ => xd_raiseH (ed_var rfl) (ed_var rfl) hok) (xd_ifR (et_or (a := taken.any fun z => PyData.eqv z e) (b := (es.take n).any fun z => PyData.eqv z e) (et_test (ed_op (ed_var rfl) (ed_var rfl) (r2_inT (neg := false) he.s hst))) fun _ => et_test ?_) fun _ => xd_raiseH (ed_var rfl) (ed_var rfl) hok)
    have hz : es.take n = cutD es none (some (n : Int)) := (cut_take _ _ (by omega)).symm
    rcases hc with rfl | rfl
    · exact ed_op (ed_var rfl) (ED.is (d' := .tuple (es.take n)) (ed_slT (ed_var rfl) eo_none (eo_some (ed_var rfl))) (by rw [hz])) (r2_inT (neg := false) he.s (hsh n).1)
    · exact ed_op (ed_var rfl) (ED.is (d' := .list (es.take n)) (ed_slL (ed_var rfl) eo_none (eo_some (ed_var rfl))) (by rw [hz])) (r2_inL (neg := false) he.s (hsh n).2)
end
end Pd
/-! SemJ3 -/
set_option Elab.async false
set_option linter.all false
set_option maxRecDepth 100000
set_option maxHeartbeats 4000000
namespace Pd
variable [Pd.Wd]
open PySem PySem.Spec PyProof.Rows L2 PySem.W
local macro_rules | `(tactic| walk_at "ed") => `(tactic| repeat' (first
  | with_reducible (first
    | exact ed_int | exact ed_str | exact ed_bl | exact ed_non
    | exact ea_nil | refine' ea_cons ?_ ?_
    | refine' ed_isi ?_ ?_ | refine' ed_isi2 ?_ ?_ ?_
    | refine' ed_andV ?_ (fun _ => ?_) | refine' ed_orV ?_ (fun _ => ?_) | refine' ed_notV ?_
    | refine' ed_chain ?_ ?_ ?_ (fun _ => ⟨?_, ?_⟩)
    | refine' ed_tup ?_ ?_ | refine' ed_lst ?_ ?_
    | refine' et_not ?_ | refine' et_and ?_ (fun _ => ?_) | refine' et_or ?_ (fun _ => ?_) | exact et_yes
    | refine' et_test ?_ | refine' et_B ?_
    | refine' ed_op ?_ ?_ ?_
    | refine' ed_cb ?_ ?_)
  | exact ed_var rfl
  | exact kit_tt | exact kit_ii | exact kit_ib | exact kit_ll | exact kit_lt | exact kit_tl
  | exact r2_addI | exact r2_subI | exact r2_lt | exact r2_le | exact r2_gt | exact r2_ge | exact r2_isN | exact r2_notN
  | exact rc_lenT | exact rc_lenL | exact rc_intB | exact rc_tupL
  | with_reducible (first | refine' r2_eq ?_ ?_ | refine' r2_ne ?_ ?_)
  | exact sh_int _ | exact sh_sg _ | exact sh_cell _ | exact sh_edge _ | exact sh_pair _ | exact sh_str _ (by decide +kernel)
  | exact r2_ixT rfl | exact r2_ixL rfl
  | refine' ed_tup ?_ ?_
  | (show List.length _ ≤ 100000; simp; done)))
/-! ### check_hall of any data -/
def doorsG (ds : List PyData) : List PyData := ds.map fun d => optE (doorG d)
def intG : PyData → Int
  | .int i => i
  | _ => 0
def chkDoorsG (CH : Addr) (r c : Int) (ws : List PyData) : PyData → Option Exn
  | .tuple ds => chkEdgesG CH r c 3 (doorsG ds) 6 ws
  | _ => some (exH CH (3 : Nat) (0 : Nat))
def chkFourG (CH : Addr) (r c w dd : PyData) : Option Exn :=
  if sideG r = true then
    if sideG c = true then match w with
      | .tuple ws => (chkEdgesG CH (intG r) (intG c) 2 ws 24 []).or (chkDoorsG CH (intG r) (intG c) ws dd)
      | _ => some (exH CH (2 : Nat) (0 : Nat))
    else some (exH CH (1 : Nat) (0 : Nat))
  else some (exH CH (0 : Nat) (0 : Nat))
def chkHallG (CH : Addr) : PyData → Option Exn
  | .tuple [r, c, w, dd] => chkFourG CH r c w dd
  | _ => some (exH CH (0 : Nat) (0 : Nat))
structure EsOk (es : List PyData) : Prop where
  p : ∀ e ∈ es, PcOk e
  s : ∀ n, SeqAt.shaped (.tuple (es.take n)) = true ∧ SeqAt.shaped (.list (es.take n)) = true
theorem EsOk.all {es : List PyData} (h : EsOk es) : SeqAt.shaped (.tuple es) = true := by
  have := (h.s es.length).1
  rw [List.take_length] at this
  exact this
structure DrOk (d : PyData) : Prop where
  n : NoDict d
  c : ∀ a b s, d = .tuple [a, b, s] → NoDict a ∧ NoDict b ∧ FlatS s
/-- what a hall that is told must be for the checks to look at it at all -/
structure HlOk (d : PyData) : Prop where
  n : NoDict d
  c : ∀ r c w dd, d = .tuple [r, c, w, dd] → NoDict r ∧ NoDict c ∧ NoDict w ∧ NoDict dd ∧ (∀ ws, w = .tuple ws → EsOk ws) ∧ ∀ ds, dd = .tuple ds → ds.length ≤ 10000 ∧ ∀ e ∈ ds, DrOk e
theorem lay_optE (o : Option Edge) : (optE o).canLay0 = true := by
  cases o with
  | none => simp [optE, PyData.canLay0]
  | some e => exact lay_edge e
theorem dep_optE (o : Option Edge) : (optE o).depth ≤ 1 := by
  cases o with
  | none => simp [optE, PyData.depth]
  | some e => exact Nat.le_of_eq (dep_edge e)
theorem doorsG_ok (ds : List PyData) : EsOk (doorsG ds) := by
  refine ⟨fun e he => ?_, fun n => ?_⟩
  · obtain ⟨d, _, rfl⟩ := List.mem_map.mp he
    cases hd : doorG d with
    | none => exact ⟨(fun _ z => nomatch z), sh_non, (fun _ z => nomatch z)⟩
    | some e =>
      refine ⟨(fun _ z => nomatch z), sh_edge e, fun es z x hx => ?_⟩
      cases z
      simp only [List.mem_cons, List.not_mem_nil, or_false] at hx
      rcases hx with rfl | rfl | rfl
      · exact ⟨(fun _ z => nomatch z), sh_int _⟩
      · exact ⟨(fun _ z => nomatch z), sh_int _⟩
      · exact ⟨(fun _ z => nomatch z), sh_sg _⟩
  · have e : (doorsG ds).take n = ((ds.take n).map doorG).map optE := by
      unfold doorsG
      rw [← List.map_take, List.map_map]
      rfl
    rw [e]
    exact ⟨sh_tup optE 1 lay_optE dep_optE (by decide) _, sh_lst optE 1 lay_optE dep_optE (by decide) _⟩
def RX_hallG (CH : Addr) (ds : List PyData) (o : Out) : Prop := ∃ d, ds = [d] ∧ HlOk d ∧ o = outX (chkHallG CH d)
section
variable {K : PySem.W.Frag} {CH : Addr} {E : XK} {ρ ρ' ρ1 : Rho} {t u : TS} {tt : TT} {e : Exn}
theorem xd_stop (h : XD t E ρ ρ1 (some e)) : XD (tSeq t u) E ρ ρ' (some e) := fun σ B H D ex ev q r => h σ B H { D with nx := u D } ex ev (fun z => nomatch z) r
theorem xd_ifT (h : ET tt ρ true) (hr : XD t E ρ ρ (some e)) : XD (tIfS tt t u) E ρ ρ' (some e) := fun σ B H D ex ev q r => h σ B H ex ev _ fun B1 H1 g1 => hr σ B1 H1 D g1.t (ev.mono g1.b) (fun z => nomatch z) fun e' he => (r e' he).gr g1
theorem xd_any (h : XD t E ρ ρ1 (some e)) : XD t E ρ ρ' (some e) := fun σ B H D ex ev _ r => h σ B H D ex ev (fun z => nomatch z) r
theorem isT_no {d : PyData} (h : NoDict d) (hn : ∀ ds, d ≠ .tuple ds) : kitB (tyN d) "tuple" = some false := by
  rw [isT h]
  cases d <;> first | rfl | exact absurd rfl (hn _)
theorem rx_hallG {ds : List PyData} {o : Out} (hR : RX_hallG CH ds o) : ∃ x ρ', o = outX x ∧ XD (rx_check_hall K CH E (spR R_doorG) (spR R_sideG) (spO (RX_edgesG CH))) E (ds.map some ++ List.replicate (6 - ds.length) none) ρ' x := by
  obtain ⟨d, rfl, hd, rfl⟩ := hR
  refine ⟨_, match d with | .tuple [r, c, w, dd] => [some d, some r, some c, some w, some dd, none] | _ => [], rfl, ?_⟩
  show XD _ E [some d, none, none, none, none, none] _ _
  obtain ⟨b, hb, h1, h2⟩ := et_tupN (K := K) (ρ := [some d, none, none, none, none, none]) (i := 0) (n := 4) rfl hd.n
  cases b with
  | true =>
    have hn := h1 rfl
    have e : chkHallG CH d = some (exH CH (0 : Nat) (0 : Nat)) := by
      match d, hn with
      | .tuple [_, _, _, _], k => exact absurd rfl (k _ rfl)
      | .tuple [], _ => rfl
      | .tuple [_], _ => rfl
      | .tuple [_, _], _ => rfl
      | .tuple [_, _, _], _ => rfl
      | .tuple (_ :: _ :: _ :: _ :: _ :: _), _ => rfl
      | .none, _ => rfl
      | .bool _, _ => rfl
      | .int _, _ => rfl
      | .str _, _ => rfl
      | .list _, _ => rfl
      | .dict _, _ => rfl
    rw [e]
    exact xd_stop (ρ1 := []) (xd_ifT hb (xd_raiseH ed_int ed_int (initOkH_lt 0 (by decide) 0 (by decide))))
  | false =>
    obtain ⟨es, rfl, hl⟩ := h2 rfl
    match es, hl with
    | [r, c, w, dd], _ =>
    obtain ⟨nr, nc, nw, nd, hw, hdd⟩ := hd.c _ _ _ _ rfl
    refine xd_seq2 (sd_ifNo hb) ?_
    refine xd_seq2 (sd_asg (d := .tuple [r, c, w, dd]) (ed_var rfl) (gd_tup (vs := [1, 2, 3, 4]) (gds_cons (gd_name (by simp)) (gds_cons (gd_name (by simp)) (gds_cons (gd_name (by simp)) (gds_cons (gd_name (by simp)) gds_nil)))) rfl)) ?_
    show XD _ E [some (.tuple [r, c, w, dd]), some r, some c, some w, some dd, none] [some (.tuple [r, c, w, dd]), some r, some c, some w, some dd, none] _
    have tr : ET (tNot (tB (tCallD (spR R_sideG) (tCons (tVar 1) tNil)))) [some (.tuple [r, c, w, dd]), some r, some c, some w, some dd, none] (!sideG r) := et_not (et_B (ed_call (ea_cons (ed_var rfl) ea_nil) (.mk r nr)))
    have tc : ET (tNot (tB (tCallD (spR R_sideG) (tCons (tVar 2) tNil)))) [some (.tuple [r, c, w, dd]), some r, some c, some w, some dd, none] (!sideG c) := et_not (et_B (ed_call (ea_cons (ed_var rfl) ea_nil) (.mk c nc)))
    cases hr : sideG r with
    | false =>
      have e : chkHallG CH (.tuple [r, c, w, dd]) = some (exH CH (0 : Nat) (0 : Nat)) := by
        show chkFourG CH r c w dd = _
        unfold chkFourG
        rw [if_neg (by rw [hr]; decide)]
      rw [e]
      rw [hr] at tr
      exact xd_stop (ρ1 := []) (xd_ifT tr (xd_raiseH ed_int ed_int (initOkH_lt 0 (by decide) 0 (by decide))))
    | true =>
    rw [hr] at tr
    refine xd_seq2 (sd_ifNo tr) ?_
    cases hc : sideG c with
    | false =>
      have e : chkHallG CH (.tuple [r, c, w, dd]) = some (exH CH (1 : Nat) (0 : Nat)) := by
        show chkFourG CH r c w dd = _
        unfold chkFourG
        rw [if_pos hr, if_neg (by rw [hc]; decide)]
      rw [e]
      rw [hc] at tc
      exact xd_stop (ρ1 := []) (xd_ifT tc (xd_raiseH ed_int ed_int (initOkH_lt 1 (by decide) 0 (by decide))))
    | true =>
    rw [hc] at tc
    refine xd_seq2 (sd_ifNo tc) ?_
    obtain ⟨ri, rfl⟩ : ∃ i, r = .int i := by cases r <;> first | exact ⟨_, rfl⟩ | cases hr
    obtain ⟨ci, rfl⟩ : ∃ i, c = .int i := by cases c <;> first | exact ⟨_, rfl⟩ | cases hc
    by_cases hwt : ∃ ws, w = .tuple ws
    · obtain ⟨ws, rfl⟩ := hwt
      have hws := hw ws rfl
      have e : chkHallG CH (.tuple [.int ri, .int ci, .tuple ws, dd]) = (chkEdgesG CH ri ci 2 ws 24 []).or (chkDoorsG CH ri ci ws dd) := by
        show chkFourG CH (.int ri) (.int ci) (.tuple ws) dd = _
        unfold chkFourG
        rw [if_pos hr, if_pos hc]
        rfl
      rw [e]
      refine xd_seq2 (sd_ifNo (ET.is (et_not (et_B (ed_isi (ed_var (d := .tuple ws) rfl) kit_tt))) rfl)) ?_
      refine xd_seq (xd_call (ea_cons (ed_var rfl) (ea_cons ed_int (ea_cons (ed_var rfl) (ea_cons ed_int (ea_cons (ed_tup ea_nil (by simp)) ea_nil))))) ⟨ri, ci, .tuple ws, dd, 2, ws, [], 24, _, rfl, .inl rfl, by decide, by decide, hws.p, hws.s, shaped_of (by simp [PyData.canLay0, PyData.canLayAll0]) (by simp [PyData.depth, PyData.depthAll]), rfl⟩) ?_
      by_cases hdt : ∃ ds, dd = .tuple ds
      · obtain ⟨ds, rfl⟩ := hdt
        obtain ⟨ld, hds⟩ := hdd ds rfl
        refine xd_seq2 (sd_ifNo (ET.is (et_not (et_B (ed_isi (ed_var (d := .tuple ds) rfl) kit_tt))) rfl)) ?_
        refine xd_call (x := chkEdgesG CH ri ci 3 (doorsG ds) 6 ws) (ea_cons (ed_var rfl) (ea_cons ed_int (ea_cons (d := .list (doorsG ds)) ?_ (ea_cons ed_int (ea_cons (ed_var rfl) ea_nil))))) ⟨ri, ci, .tuple ws, .tuple ds, 3, doorsG ds, ws, 6, _, rfl, .inr rfl, by decide, by decide, (doorsG_ok ds).p, (doorsG_ok ds).s, hws.all, rfl⟩
        refine ed_lcM ds (fun d => d) (fun d => optE (doorG d)) (by rw [List.map_id']; exact ie_tup (ed_var rfl)) (by omega) fun e he => ⟨_, gd_name (by simp), ed_call (ea_cons (ed_var rfl) ea_nil) (.mk e (hds e he).n (hds e he).c)⟩
      · have hno : ∀ ds, dd ≠ .tuple ds := fun ds z => hdt ⟨ds, z⟩
        have e2 : chkDoorsG CH ri ci ws dd = some (exH CH (3 : Nat) (0 : Nat)) := by
          cases dd <;> first | rfl | exact absurd rfl (hno _)
        rw [e2]
        exact xd_stop (ρ1 := []) (xd_ifT (ET.is (et_not (et_B (ed_isi (ed_var rfl) (isT_no nd hno)))) rfl) (xd_raiseH ed_int ed_int (initOkH_lt 3 (by decide) 0 (by decide))))
    · have hno : ∀ ws, w ≠ .tuple ws := fun ws z => hwt ⟨ws, z⟩
      have e : chkHallG CH (.tuple [.int ri, .int ci, w, dd]) = some (exH CH (2 : Nat) (0 : Nat)) := by
        show chkFourG CH _ _ _ _ = _
        unfold chkFourG
        rw [if_pos hr, if_pos hc]
        cases w <;> first | rfl | exact absurd rfl (hno _)
      rw [e]
      exact xd_stop (ρ1 := []) (xd_ifT (ET.is (et_not (et_B (ed_isi (ed_var rfl) (isT_no nw hno)))) rfl) (xd_raiseH ed_int ed_int (initOkH_lt 2 (by decide) 0 (by decide))))
end
end Pd
/-! SemJ4 -/
set_option Elab.async false
set_option linter.all false
set_option maxRecDepth 100000
set_option maxHeartbeats 4000000
namespace Pd
variable [Pd.Wd]
open PySem PySem.Spec PyProof.Rows L2 PySem.W
local macro_rules | `(tactic| walk_at "ed") => `(tactic| repeat' (first
  | with_reducible (first
    | exact ed_int | exact ed_str | exact ed_bl | exact ed_non
    | exact ea_nil | refine' ea_cons ?_ ?_
    | refine' ed_isi ?_ ?_ | refine' ed_isi2 ?_ ?_ ?_
    | refine' ed_andV ?_ (fun _ => ?_) | refine' ed_orV ?_ (fun _ => ?_) | refine' ed_notV ?_
    | refine' ed_chain ?_ ?_ ?_ (fun _ => ⟨?_, ?_⟩)
    | refine' ed_tup ?_ ?_ | refine' ed_lst ?_ ?_
    | refine' et_not ?_ | refine' et_and ?_ (fun _ => ?_) | refine' et_or ?_ (fun _ => ?_) | exact et_yes
    | refine' et_test ?_ | refine' et_B ?_
    | refine' ed_op ?_ ?_ ?_
    | refine' ed_cb ?_ ?_)
  | exact ed_var rfl
  | exact kit_tt | exact kit_ii | exact kit_ib | exact kit_ll | exact kit_lt | exact kit_tl
  | exact r2_addI | exact r2_subI | exact r2_lt | exact r2_le | exact r2_gt | exact r2_ge | exact r2_isN | exact r2_notN
  | exact rc_lenT | exact rc_lenL | exact rc_intB | exact rc_tupL
  | with_reducible (first | refine' r2_eq ?_ ?_ | refine' r2_ne ?_ ?_)
  | exact sh_int _ | exact sh_sg _ | exact sh_cell _ | exact sh_edge _ | exact sh_pair _ | exact sh_str _ (by decide +kernel)
  | exact r2_ixT rfl | exact r2_ixL rfl
  | refine' ed_tup ?_ ?_
  | (show List.length _ ≤ 100000; simp; done)))
/-! ### halls with one odd piece: pure -/
theorem firstX_at {α : Type} {f : Nat → α → Option Exn} {y : Exn} : ∀ {xs : List α} {n k : Nat} {x : α}, xs[k]? = some x → (∀ m z, m < k → xs[m]? = some z → f (n + m) z = none) → f (n + k) x = some y → firstX f n xs = some y
  | [], _, k, x, h, _, _ => by simp at h
  | a :: xs, n, 0, x, h, _, hy => by
    simp at h
    subst h
    show Option.or _ _ = _
    rw [show f n a = some y from hy]
    rfl
  | a :: xs, n, k + 1, x, h, hp, hy => by
    have h0 := hp 0 a (by omega) rfl
    show Option.or _ _ = _
    rw [show f n a = none from h0]
    show firstX f (n + 1) xs = some y
    refine firstX_at (k := k) (by simpa using h) (fun m z hm hz => ?_) (by rw [show n + 1 + k = n + (k + 1) by omega]; exact hy)
    have := hp (m + 1) z (by omega) (by simpa using hz)
    rw [show n + (m + 1) = n + 1 + m by omega] at this
    exact this
theorem edgeG_edge {h : Hall} {e : Edge} : edgeG h.rows h.cols (edgeD e) = isEdge h e := by
  obtain ⟨a, b, s⟩ := e
  have h1 : PyData.eqv (sg s) (.str "-") = decide (s = .h) := by rw [lit_h, eqv_sg]
  have h2 : PyData.eqv (sg s) (.str "|") = decide (s = .v) := by rw [lit_v, eqv_sg]
  show (in2 h.rows h.cols a b && (if PyData.eqv (sg s) (.str "-") = true then decide (0 < a) else PyData.eqv (sg s) (.str "|") && decide (0 < b))) = _
  rw [h1, h2]
  unfold isEdge inH in2
  by_cases q : s = .h
  · subst q
    rfl
  · simp [q]
/-- pieces that are all well -/
theorem chk_all {CH : Addr} {h : Hall} {part most : Nat} {A : List Edge} {tk : List Edge} (hA : ∀ e ∈ A, isEdge h e = true) (hn : A.Nodup) (ht : ∀ e ∈ A, e ∉ tk) (hl : A.length ≤ most) : chkEdgesG CH h.rows h.cols part (A.map edgeD) most (tk.map edgeD) = none := by
  have key : ∀ (xs : List PyData) (n : Nat), (∀ m z, xs[m]? = some z → edgeXG CH h.rows h.cols part (A.map edgeD) most (tk.map edgeD) (n + m) z = none) → firstX (edgeXG CH h.rows h.cols part (A.map edgeD) most (tk.map edgeD)) n xs = none := by
    intro xs
    induction xs with
    | nil => exact fun _ _ => rfl
    | cons x xs ih =>
      intro n hx
      show Option.or _ _ = _
      rw [show edgeXG CH h.rows h.cols part (A.map edgeD) most (tk.map edgeD) n x = none from hx 0 x rfl]
      show firstX _ (n + 1) xs = none
      refine ih (n + 1) fun m z hz => ?_
      have := hx (m + 1) z (by simpa using hz)
      rw [show n + (m + 1) = n + 1 + m by omega] at this
      exact this
  refine key _ 0 fun m z hz => ?_
  have hm : m < A.length := by
    have := (List.getElem?_eq_some_iff.mp hz).1
    rwa [List.length_map] at this
  rw [List.getElem?_map, List.getElem?_eq_getElem hm] at hz
  cases hz
  have hmem := List.getElem_mem hm
  unfold edgeXG
  rw [Nat.zero_add, ← List.map_take, edgeG_edge, hA _ hmem, any_edge, any_edge]
  rw [decide_eq_false (show ¬ m = most by omega), decide_eq_false (ht _ hmem), decide_eq_false (not_mem_take hn (List.getElem?_eq_getElem hm))]
  rfl
end Pd
/-! SemJ5 -/
set_option Elab.async false
set_option linter.all false
set_option maxRecDepth 100000
set_option maxHeartbeats 4000000
namespace Pd
variable [Pd.Wd]
open PySem PySem.Spec PyProof.Rows L2 PySem.W
local macro_rules | `(tactic| walk_at "ed") => `(tactic| repeat' (first
  | with_reducible (first
    | exact ed_int | exact ed_str | exact ed_bl | exact ed_non
    | exact ea_nil | refine' ea_cons ?_ ?_
    | refine' ed_isi ?_ ?_ | refine' ed_isi2 ?_ ?_ ?_
    | refine' ed_andV ?_ (fun _ => ?_) | refine' ed_orV ?_ (fun _ => ?_) | refine' ed_notV ?_
    | refine' ed_chain ?_ ?_ ?_ (fun _ => ⟨?_, ?_⟩)
    | refine' ed_tup ?_ ?_ | refine' ed_lst ?_ ?_
    | refine' et_not ?_ | refine' et_and ?_ (fun _ => ?_) | refine' et_or ?_ (fun _ => ?_) | exact et_yes
    | refine' et_test ?_ | refine' et_B ?_
    | refine' ed_op ?_ ?_ ?_
    | refine' ed_cb ?_ ?_)
  | exact ed_var rfl
  | exact kit_tt | exact kit_ii | exact kit_ib | exact kit_ll | exact kit_lt | exact kit_tl
  | exact r2_addI | exact r2_subI | exact r2_lt | exact r2_le | exact r2_gt | exact r2_ge | exact r2_isN | exact r2_notN
  | exact rc_lenT | exact rc_lenL | exact rc_intB | exact rc_tupL
  | with_reducible (first | refine' r2_eq ?_ ?_ | refine' r2_ne ?_ ?_)
  | exact sh_int _ | exact sh_sg _ | exact sh_cell _ | exact sh_edge _ | exact sh_pair _ | exact sh_str _ (by decide +kernel)
  | exact r2_ixT rfl | exact r2_ixL rfl
  | refine' ed_tup ?_ ?_
  | (show List.length _ ≤ 100000; simp; done)))
/-! ### whatever begins by check_start refuses such a hall -/
def RX_refG (CH : Addr) (n : Nat) (ds : List PyData) (o : Out) : Prop := ∃ (d : PyData) (cs : List PyData) (e : Exn), ds = d :: cs ∧ cs.length = n ∧ HlOk d ∧ chkHallG CH d = some e ∧ o = .ex e
section
variable {K : PySem.W.Frag} {CH : Addr} {E : XK} {ρ ρ' : Rho} {sxC : Sp} {d : PyData} {e : Exn}
theorem xd_refG {n : Nat} {ta : TA} {cs : List PyData} (h : EA ta ρ (d :: cs)) (hn : cs.length = n) (hd : HlOk d) (he : chkHallG CH d = some e) : XD (tDrop (tCall (spO (RX_refG CH n)) [] E ta)) E ρ ρ' (some e) :=
  xd_any (xd_call (x := some e) h ⟨d, cs, e, rfl, hn, hd, he, rfl⟩)
/-- check_start itself -/
theorem rx_startG {ds : List PyData} {o : Out} (hR : RX_refG CH 1 ds o) : ∃ x ρ', o = outX x ∧ XD (rx_check_start K E sxC (spO (RX_hallG CH))) E (ds.map some ++ List.replicate (2 - ds.length) none) ρ' x := by
  obtain ⟨d, cs, e, rfl, hl, hd, he, rfl⟩ := hR
  match cs, hl with
  | [c], _ =>
  refine ⟨some e, [], rfl, ?_⟩
  exact xd_stop (ρ1 := [some d, some c]) (xd_call (x := some e) (ea_cons (ed_var rfl) ea_nil) ⟨d, rfl, hd, by rw [he]⟩)
/-- a def that begins by check_start(hall, cells); the rest is not read -/
theorem rx_firstG {n : Nat} {ds : List PyData} {N : Nat} {o : Out} (hR : RX_refG CH (n + 1) ds o) : ∃ x ρ', o = outX x ∧ XD (tSeq (tDrop (tCall (spO (RX_refG CH 1)) [] E (tCons (tVar 0) (tCons (tVar 1) tNil)))) tNever) E (ds.map some ++ List.replicate (N - ds.length) none) ρ' x := by
  obtain ⟨d, cs, e, rfl, hl, hd, he, rfl⟩ := hR
  match cs, hl with
  | c :: r, _ =>
  refine ⟨some e, [], rfl, ?_⟩
  exact xd_stop (ρ1 := []) (xd_refG (ea_cons (ed_var (d := d) rfl) (ea_cons (ed_var (d := c) rfl) ea_nil)) rfl hd he)
end
end Pd
/-! KwL -/
set_option Elab.async false
set_option linter.all false
set_option maxRecDepth 100000
set_option maxHeartbeats 4000000
/-! a def with one keyword-only parameter, called with it and without -/
namespace Pd
variable [Pd.Wd]
open PySem PySem.Spec PyProof.Rows L2
def catV (vs zs : List V) : List V := vs ++ zs
structure DefK (P : Program) (w : World) (K : PySem.W.Frag) (mg : Str → Option Value) (base : Heap) (k : Nat) (x : Str) (n : Nat) (ky : Str) (dv : V) (ps : List Str) (sp : Sp) : Prop where
  ex : ∃ f fd, ∃ (ds : List Value) (g : List Value → List Value → List Value), mg x = some (.ref f) ∧ PySem.W.keepIn K (.ref f) = true ∧ FnOk P w K mg base CX0 k f fd ps sp ∧ Vals [dv] ds ∧ Binds K fd ps ds ∧ KBn K fd ps n [ky] g catV
/-- where lifted stands -/
def AtL (K : PySem.W.Frag) (mg : Str → Option Value) (st : Stmt) (ps : List Str) : Prop := ∃ f fd, ∃ (ds : List Value) (g : List Value → List Value → List Value), mg "lifted" = some (.ref f) ∧ FunD K "lifted" "lifted" (defArgs st) (defBody st) (defScope st) [] [("most", .int 6)] f fd ∧ Vals [.int 6] ds ∧ Binds K fd ps ds ∧ KBn K fd ps 3 ["most"] g catV
section
variable {X : Cx} {k n : Nat} {x ky : Str} {dv : V} {ps : List Str} {sp : Sp} {p pos : Pos} {e : Expr} {es : List Expr} {kws : List Keyword} {t tk : TA}
end
section
variable {ρ : Rho} {ta : TA} {te : TE} {ds : List PyData} {d m : PyData} {R : List PyData → PyData → Prop}
end
end Pd
/-! KwX -/
set_option Elab.async false
set_option linter.all false
set_option maxRecDepth 100000
set_option maxHeartbeats 4000000
/-! what may raise, called where one may raise: a class, a def with a keyword-only parameter -/
namespace Pd
variable [Pd.Wd]
open PySem PySem.Spec PyProof.Rows L2
/-- as DefK, for a def that may raise -/
structure DefKX (P : Program) (w : World) (K : PySem.W.Frag) (mg : Str → Option Value) (base : Heap) (k : Nat) (x : Str) (n : Nat) (ky : Str) (dv : V) (ps : List Str) (sp : Sp) : Prop where
  ex : ∃ f fd, ∃ (ds : List Value) (g : List Value → List Value → List Value), mg x = some (.ref f) ∧ PySem.W.keepIn K (.ref f) = true ∧ FnOk P w K mg base (L2.CX P w) k f fd ps sp ∧ Vals [dv] ds ∧ Binds K fd ps ds ∧ KBn K fd ps n [ky] g catV
section
variable {X : Cx} {k n : Nat} {x ky : Str} {C : Addr} {dv : V} {ps : List Str} {sp : Sp} {E : XK} {p pos : Pos} {e : Expr} {es : List Expr} {kws : List Keyword} {t tk : TA}
/-- x(.., ky=..) -/
theorem pe_dcallMX (G : DefKX X.prog X.w X.K X.mg X.base k x n ky dv ps sp) (hr : Room k X.A) (hx : Passes (L2.CX X.prog X.w) X E) (ha : PA X (e :: es) t) (hkw : PK X kws tk) (hg : Gl X x := by rfl)
    (hall : (backToKw pos (keywordEach kws X.env)).all (·.1.isSome) = true := by rfl) (hks : (backToKw pos (keywordEach kws X.env)).filterMap (·.1) = [ky] := by rfl)
    (hdb : (x == ("__debug__" : Str)) = false := by decide) (he : starEach (e :: es) X.env = (false, eval e X.env) :: starEach es X.env := by rfl)
    (hpl : ((backTo pos (starEach (e :: es) X.env)).any (·.1) || (backToKw pos (keywordEach kws X.env)).any (·.1.isNone)) = false := by rfl) :
    PE X (.Call (.Name x p) (e :: es) kws pos) (tCallN n 1 sp catV E t tk) := by
  obtain ⟨f, fd, ds, g, h1, h2, h3, h4, _, h6⟩ := G.ex
  exact pe_callN h3 hr hg h1 h2 h6 hx ha hkw hall hks hdb he hpl
/-- C(..), its __init__ may raise -/
theorem pe_bmakeX (G : MakeS X.prog X.w X.K X.mg X.base (L2.CX X.prog X.w) k C ps sp) (hr : Room (k + 1) X.A) (hx : Passes (L2.CX X.prog X.w) X E) (hg : Gl X x) (hm : X.mg x = some (.ref C)) (ha : PA X (e :: es) t) (hdb : (x == ("__debug__" : Str)) = false := by decide)
    (he : starEach (e :: es) X.env = (false, eval e X.env) :: starEach es X.env := by rfl) (hpl : (backTo pos (starEach es X.env)).any (·.1) = false := by rfl) : PE X (.Call (.Name x p) (e :: es) [] pos) (tMake C sp [] E t) := by
  obtain ⟨f, fd, h1, h2, h4⟩ := G
  exact pe_make h1 h4 hr hg hm h2 .nil hx ha hdb he hpl
end
end Pd
/-! SemJ6 -/
set_option Elab.async false
set_option linter.all false
set_option maxRecDepth 100000
set_option maxHeartbeats 4000000
/-! expressions that give a value or raise: the lambdas' bodies; what begins by best_way; a class whose __init__ raises -/
namespace Pd
variable [Pd.Wd]
open PySem PySem.Spec PyProof.Rows L2 PySem.W
/-- an expression that gives a value, or raises -/
def OE (te : TE) (E : XK) (ρ : Rho) (o : Out) : Prop := ∀ σ B H (Q : VK), Ex B H → EnvD σ B ρ → Fit B H Q E o → te σ H Q
/-- an __init__ that only raises -/
def spI (C : Addr) (R : List PyData → Out → Prop) : Sp := fun vs H Q E => ∃ (a dx : Addr) (us : List V) (B : Hp) (ds : List PyData) (e : Exn), vs = .ref a :: us ∧ H a = some (.ins C dx []) ∧ Ex B H ∧ DHs B us ds ∧ R ds (.ex e) ∧ Rais B H E e
section
variable {K : PySem.W.Frag} {CH C : Addr} {E : XK} {ρ ρ' : Rho} {ta : TA} {te : TE} {g : TG} {d m : PyData} {ds : List PyData} {o : Out} {e : Exn} {R : List PyData → Out → Prop} {n : Nat}
theorem oe_call (h : EA ta ρ ds) (hR : R ds o) : OE (tCall (spO R) [] E ta) E ρ o := fun σ B H Q ex ev q => by
  refine h σ B H ex ev _ fun vs B1 H1 g1 d1 => ⟨B1, ds, o, g1.t, by rw [List.append_nil]; exact d1, hR, q.gr g1⟩
theorem oe_callN (h : EA ta ρ ds) (hm : ED te ρ m) (hn : ds.length = n) (hR : R (ds ++ [m]) o) : OE (tCallN n 1 (spO R) catV E ta (tCons te tNil)) E ρ o := fun σ B H Q ex ev q => by
  refine h σ B H ex ev _ fun vs B1 H1 g1 d1 => ?_
  refine hm σ B1 H1 g1.t (ev.mono g1.b) _ fun v B2 H2 g2 d2 => ?_
  exact ⟨by rw [d1.length, hn], rfl, B2, ds ++ [m], o, g2.t, (d1.mono g2.b).append (.one d2), hR, q.gr (g1.trans g2)⟩
theorem oe_make (h : EA ta ρ ds) (hR : R ds (.ex e)) : OE (tMake C (spI C R) [] E ta) E ρ (.ex e) := fun σ B H Q ex ev q => by
  refine h σ B H ex ev _ fun vs B1 H1 g1 d1 => ?_
  intro x dx hx hdx hne
  have g2 : Gr B1 H1 B1 (upd H1 dx (.own x)) := Gr.own g1.t hdx
  have hx2 : upd H1 dx (.own x) x = none := (upd_ne (Ne.symm hne)).trans hx
  have g3 : Gr B1 (upd H1 dx (.own x)) B1 (upd (upd H1 dx (.own x)) x (.ins C dx [])) := Gr.own g2.t hx2
  exact ⟨x, dx, vs, B1, ds, e, by rw [List.append_nil], upd_same, g3.t, d1, hR, Rais.gr q ((g1.trans g2).trans g3)⟩
theorem od_retO (h : OE te E ρ o) : OD (tRet te) E ρ o := fun σ B H D ex ev q => h σ B H D.rt ex ev q
theorem xd_asgO (h : OE te E ρ (.ex e)) : XD (tAsg te g) E ρ ρ' (some e) := fun σ B H D ex ev _ r => h σ B H _ ex ev (r e rfl)
theorem xd_dropO (h : OE te E ρ (.ex e)) : XD (tDrop te) E ρ ρ' (some e) := fun σ B H D ex ev _ r => h σ B H _ ex ev (r e rfl)
/-- found = best_way(hall, cells, goal, i); the rest is not read -/
theorem rx_bestG {ds : List PyData} {N j : Nat} {i : Int} (hR : RX_refG CH 2 ds o) : ∃ x ρ', o = outX x ∧ XD (tSeq (tAsg (tCall (spO (RX_refG CH 3)) [] E (tCons (tVar 0) (tCons (tVar 1) (tCons (tVar 2) (tCons (tC (.int i)) tNil))))) (gName j)) tNever) E (ds.map some ++ List.replicate (N - ds.length) none) ρ' x := by
  obtain ⟨d, cs, e, rfl, hl, hd, he, rfl⟩ := hR
  match cs, hl with
  | [c, c2], _ =>
  refine ⟨some e, [], rfl, ?_⟩
  exact xd_stop (ρ1 := []) (xd_asgO (oe_call (ea_cons (ed_var (d := d) rfl) (ea_cons (ed_var (d := c) rfl) (ea_cons (ed_var (d := c2) rfl) (ea_cons ed_int ea_nil)))) ⟨d, [c, c2, .int i], e, rfl, rfl, hd, he, rfl⟩))
/-- return best_way(hall, cells, goal, i) -/
theorem rx_best1G {ds : List PyData} {N : Nat} {i : Int} (hR : RX_refG CH 2 ds o) : OD (tRet (tCall (spO (RX_refG CH 3)) [] E (tCons (tVar 0) (tCons (tVar 1) (tCons (tVar 2) (tCons (tC (.int i)) tNil)))))) E (ds.map some ++ List.replicate (N - ds.length) none) o := by
  obtain ⟨d, cs, e, rfl, hl, hd, he, rfl⟩ := hR
  match cs, hl with
  | [c, c2], _ =>
  exact od_retO (oe_call (ea_cons (ed_var (d := d) rfl) (ea_cons (ed_var (d := c) rfl) (ea_cons (ed_var (d := c2) rfl) (ea_cons ed_int ea_nil)))) ⟨d, [c, c2, .int i], e, rfl, rfl, hd, he, rfl⟩)
/-- an __init__(self, hall, cells) that begins by check_start(hall, cells); the rest is not read -/
theorem rx_initG {N : List Str} {vs : List V} {H : Hp} {Q : VK} {D : Ends} (h : spI C (RX_refG CH 1) vs H Q E) : (tSeq (tDrop (tCall (spO (RX_refG CH 1)) [] E (tCons (tVar 1) (tCons (tVar 2) tNil)))) tNever) D (L2.start N vs) H := by
  obtain ⟨a, dx, us, B, ds, e, rfl, ha, ex, du, ⟨d, cs, e2, rfl, hl, hd, he, ee⟩, r⟩ := h
  cases ee
  match cs, hl with
  | [c], _ =>
  cases du with
  | cons d1 du2 =>
  cases du2 with
  | cons d2 du3 =>
  cases du3
  rename_i v1 v2
  have ev : EnvD (L2.start N [V.ref a, v1, v2]) B ([none, some d, some c] ++ List.replicate (N.length - 3) none) := ⟨by simp [L2.start], fun i dd hi => ?_⟩
  · have hx : XD (tSeq (tDrop (tCall (spO (RX_refG CH 1)) [] E (tCons (tVar 1) (tCons (tVar 2) tNil)))) tNever) E ([none, some d, some c] ++ List.replicate (N.length - 3) none) [] (some e) := xd_stop (ρ1 := []) (xd_dropO (oe_call (ea_cons (ed_var (d := d) rfl) (ea_cons (ed_var (d := c) rfl) ea_nil)) ⟨d, [c], e, rfl, rfl, hd, he, rfl⟩))
    exact hx _ B H D ex ev (fun z => nomatch z) fun e' he' => by cases he'; exact r
  · match i, hi with
    | 0, hi => simp at hi
    | 1, hi =>
      have hi : some (some d) = some (some dd) := hi
      cases hi
      exact ⟨_, rfl, d1⟩
    | 2, hi =>
      have hi : some (some c) = some (some dd) := hi
      cases hi
      exact ⟨_, rfl, d2⟩
    | (n + 3), hi =>
      have hi : (List.replicate (N.length - 3) (none : Option PyData))[n]? = some (some dd) := by
        rw [List.getElem?_append_right (by simp)] at hi
        simpa using hi
      exact absurd (List.mem_of_getElem? hi) (by simp)
end
end Pd
/-! LamI -/
set_option Elab.async false
set_option linter.all false
set_option maxRecDepth 100000
set_option maxHeartbeats 4000000
/-! the body of a lambda whose frame has ended, over data: what it comes to -/
namespace Lmp
variable [Pd.Wd]
open PySem PySem.Spec PyProof.Rows L2 LamX NdefX Pd
section
variable {B H B' H' : Hp} {cs : List Addr} {Q : VK} {E : XK} {o : Out} {e : Exn}
theorem gr_bck (g : Gr B (hid H cs) B' H') (n : ∀ c ∈ cs, H' c = none) : Gr B H B' (bck H H' cs) := by
  refine ⟨g.b, fun b u q => ?_, fun b u q => ?_, fun a h1 h2 => ?_⟩
  · have q2 := g.t b u q
    by_cases hb : b ∈ cs
    · rw [n b hb] at q2
      cases q2
    · rw [bck_ne hb]
      exact q2
  · by_cases hb : b ∈ cs
    · rw [bck_in hb]
      exact q
    · rw [bck_ne hb]
      exact g.h b u (by rw [hid_ne hb]; exact q)
  · by_cases hb : a ∈ cs
    · exact g.t.nil (n a hb)
    · exact g.n a h1 (by rw [hid_ne hb]; exact h2)
theorem bck_upd {d : Addr} {u : HO} (h : d ∉ cs) : bck H (upd H' d u) cs = upd (bck H H' cs) d u := by
  funext b
  by_cases hb : b = d
  · subst hb
    rw [bck_ne h, upd_same, upd_same]
  · rw [upd_ne hb]
    by_cases hc : b ∈ cs
    · rw [bck_in hc, bck_in hc]
    · rw [bck_ne hc, bck_ne hc, upd_ne hb]
theorem fit_bck (h : Fit B H Q E o) : Fit B (hid H cs) (fun v H' => (∀ c ∈ cs, H' c = none) → Q v (bck H H' cs)) (fun cls dd H' => (∀ c ∈ cs, H' c = none) → E cls dd (bck H H' cs)) o := by
  cases o with
  | ok d => exact fun v B' H' g dv n => h v B' _ (gr_bck g n) dv
  | ex e =>
    intro B' H' dx g hd n
    have hdx : dx ∉ cs := fun hm => by
      have := n dx hm
      rw [upd_same] at this
      cases this
    have n' : ∀ c ∈ cs, H' c = none := fun c hm => by
      have q := n c hm
      have ne : c ≠ dx := fun z => hdx (by rw [← z]; exact hm)
      rw [upd_ne ne] at q
      exact q
    rw [bck_upd hdx]
    exact h B' _ dx (gr_bck g n') (by rw [bck_ne hdx]; exact hd)
end
section
variable {P : Program} {w : World} {K : PySem.W.Frag} {mg : Str → Option Value} {B H : Hp} {f : Addr} {F : LF} {d : Option Int} {fr : List Str} {ws : List (Option V)} {Q : VK} {E : XK} {o : Out} {ρ : Rho} {t : List (Option V) → XK → TE} {st : List (Option V) → L2.St}
/-- the call of a lambda whose frame has ended comes to o -/
theorem actE_out (hl : LamIs f F d H) (C : CellsT F.cl fr ws H) (ex : Ex B H) (hB : ∀ c ∈ F.cs, B c = none) (ev : EnvD (st ws) B ρ) (ht : ∀ E, OE (t ws E) E ρ o) (h : Fit B H Q E o) : actE f F d fr ws (fun ws E H Q => t ws E (st ws) H Q) E H Q := by
  refine ⟨hl, C, ht _ (st ws) B (hid H F.cs) _ (fun b u q => ?_) ev (fit_bck h)⟩
  rw [hid_ne fun hm => by rw [hB b hm] at q; cases q]
  exact ex b u q
end
end Lmp
/-! LamK01 -/
set_option Elab.async false
set_option linter.all false
set_option maxRecDepth 100000
set_option maxHeartbeats 4000000
namespace Pd
variable [Pd.Wd]
open PySem PySem.Spec PyProof.Rows L2 Lmp
def lamArgs : Arguments := { posonlyargs := [], args := [], vararg := none, kwonlyargs := [], kw_defaults := [], kwarg := none, defaults := [] }
def lam1B : Expr := (PySem.Expr.Call (func := (PySem.Expr.Name "may" ⟨633, 29, 633, 32⟩)) (args := [ (PySem.Expr.Name "_law_hall_here" ⟨633, 33, 633, 47⟩), (PySem.Expr.Tuple (elts := [ (PySem.Expr.Tuple (elts := [ (PySem.Expr.Constant (PySem.Const.int 0) 0 ⟨633, 51, 633, 52⟩), (PySem.Expr.Constant (PySem.Const.int 0) 0 ⟨633, 54, 633, 55⟩)]) (k := 0) (pos := ⟨633, 50, 633, 56⟩))]) (k := 0) (pos := ⟨633, 49, 633, 58⟩))]) (keywords := []) (pos := ⟨633, 29, 633, 59⟩))
def lamScope1 : Scope := { kind := PySem.ScopeKind.function, names := [ (PySem.Str.ofString "_law_hall_here", PySem.NameKind.free), (PySem.Str.ofString "may", PySem.NameKind.globalImplicit)], isGenerator := false, isCoroutine := false, more := [] : PySem.Scope }
def lam3B : Expr := (PySem.Expr.Call (func := (PySem.Expr.Name "may" ⟨642, 33, 642, 36⟩)) (args := [ (PySem.Expr.Name "_law_bad" ⟨642, 37, 642, 45⟩), (PySem.Expr.Constant (PySem.Const.int 5) 0 ⟨642, 47, 642, 48⟩)]) (keywords := []) (pos := ⟨642, 33, 642, 49⟩))
def lamScope3 : Scope := { kind := PySem.ScopeKind.function, names := [ (PySem.Str.ofString "_law_bad", PySem.NameKind.free), (PySem.Str.ofString "may", PySem.NameKind.globalImplicit)], isGenerator := false, isCoroutine := false, more := [] : PySem.Scope }
def lam4B : Expr := (PySem.Expr.Call (func := (PySem.Expr.Name "may" ⟨648, 36, 648, 39⟩)) (args := [ (PySem.Expr.Tuple (elts := [ (PySem.Expr.Constant (PySem.Const.int 5) 0 ⟨648, 41, 648, 42⟩), (PySem.Expr.Constant (PySem.Const.int 5) 0 ⟨648, 44, 648, 45⟩), (PySem.Expr.Call (func := (PySem.Expr.Name "tuple" ⟨648, 47, 648, 52⟩)) (args := [ (PySem.Expr.Subscript (value := (PySem.Expr.Name "_law_some" ⟨648, 53, 648, 62⟩)) (slice := (PySem.Expr.Slice (lower := none) (upper := (some (PySem.Expr.Constant (PySem.Const.int 25) 0 ⟨648, 64, 648, 66⟩))) (step := none) (pos := ⟨648, 63, 648, 66⟩))) (pos := ⟨648, 53, 648, 67⟩))]) (keywords := []) (pos := ⟨648, 47, 648, 68⟩)), (PySem.Expr.Constant (PySem.Const.int 5) 0 ⟨648, 70, 648, 71⟩)]) (k := 0) (pos := ⟨648, 40, 648, 72⟩)), (PySem.Expr.Constant (PySem.Const.int 5) 0 ⟨648, 74, 648, 75⟩)]) (keywords := []) (pos := ⟨648, 36, 648, 76⟩))
def lamScope4 : Scope := { kind := PySem.ScopeKind.function, names := [ (PySem.Str.ofString "_law_some", PySem.NameKind.free), (PySem.Str.ofString "may", PySem.NameKind.globalImplicit), (PySem.Str.ofString "tuple", PySem.NameKind.globalImplicit)], isGenerator := false, isCoroutine := false, more := [] : PySem.Scope }
def lam5B : Expr := (PySem.Expr.Call (func := (PySem.Expr.Name "may" ⟨649, 40, 649, 43⟩)) (args := [ (PySem.Expr.Tuple (elts := [ (PySem.Expr.Constant (PySem.Const.int 5) 0 ⟨649, 45, 649, 46⟩), (PySem.Expr.Constant (PySem.Const.int 5) 0 ⟨649, 48, 649, 49⟩), (PySem.Expr.Call (func := (PySem.Expr.Name "tuple" ⟨649, 51, 649, 56⟩)) (args := [ (PySem.Expr.Subscript (value := (PySem.Expr.Name "_law_some" ⟨649, 57, 649, 66⟩)) (slice := (PySem.Expr.Slice (lower := none) (upper := (some (PySem.Expr.Constant (PySem.Const.int 24) 0 ⟨649, 68, 649, 70⟩))) (step := none) (pos := ⟨649, 67, 649, 70⟩))) (pos := ⟨649, 57, 649, 71⟩))]) (keywords := []) (pos := ⟨649, 51, 649, 72⟩)), (PySem.Expr.Tuple [] 0 ⟨649, 74, 649, 76⟩)]) (k := 0) (pos := ⟨649, 44, 649, 77⟩)), (PySem.Expr.Tuple (elts := [ (PySem.Expr.Tuple (elts := [ (PySem.Expr.Constant (PySem.Const.int 0) 0 ⟨649, 81, 649, 82⟩), (PySem.Expr.Constant (PySem.Const.int 0) 0 ⟨649, 84, 649, 85⟩)]) (k := 0) (pos := ⟨649, 80, 649, 86⟩))]) (k := 0) (pos := ⟨649, 79, 649, 88⟩))]) (keywords := []) (pos := ⟨649, 40, 649, 89⟩))
def lamScope5 : Scope := { kind := PySem.ScopeKind.function, names := [ (PySem.Str.ofString "_law_some", PySem.NameKind.free), (PySem.Str.ofString "may", PySem.NameKind.globalImplicit), (PySem.Str.ofString "tuple", PySem.NameKind.globalImplicit)], isGenerator := false, isCoroutine := false, more := [] : PySem.Scope }
def lam6B : Expr := (PySem.Expr.Call (func := (PySem.Expr.Name "may" ⟨650, 40, 650, 43⟩)) (args := [ (PySem.Expr.Tuple (elts := [ (PySem.Expr.Constant (PySem.Const.int 5) 0 ⟨650, 45, 650, 46⟩), (PySem.Expr.Constant (PySem.Const.int 5) 0 ⟨650, 48, 650, 49⟩), (PySem.Expr.Tuple [] 0 ⟨650, 51, 650, 53⟩), (PySem.Expr.Call (func := (PySem.Expr.Name "tuple" ⟨650, 55, 650, 60⟩)) (args := [(PySem.Expr.Name "_law_doors" ⟨650, 61, 650, 71⟩)]) (keywords := []) (pos := ⟨650, 55, 650, 72⟩))]) (k := 0) (pos := ⟨650, 44, 650, 73⟩)), (PySem.Expr.Constant (PySem.Const.int 5) 0 ⟨650, 75, 650, 76⟩)]) (keywords := []) (pos := ⟨650, 40, 650, 77⟩))
def lamScope6 : Scope := { kind := PySem.ScopeKind.function, names := [ (PySem.Str.ofString "_law_doors", PySem.NameKind.free), (PySem.Str.ofString "may", PySem.NameKind.globalImplicit), (PySem.Str.ofString "tuple", PySem.NameKind.globalImplicit)], isGenerator := false, isCoroutine := false, more := [] : PySem.Scope }
def lam7B : Expr := (PySem.Expr.Call (func := (PySem.Expr.Name "may" ⟨651, 40, 651, 43⟩)) (args := [ (PySem.Expr.Tuple (elts := [ (PySem.Expr.Constant (PySem.Const.int 5) 0 ⟨651, 45, 651, 46⟩), (PySem.Expr.Constant (PySem.Const.int 5) 0 ⟨651, 48, 651, 49⟩), (PySem.Expr.Tuple [] 0 ⟨651, 51, 651, 53⟩), (PySem.Expr.Call (func := (PySem.Expr.Name "tuple" ⟨651, 55, 651, 60⟩)) (args := [ (PySem.Expr.Subscript (value := (PySem.Expr.Name "_law_doors" ⟨651, 61, 651, 71⟩)) (slice := (PySem.Expr.Slice (lower := none) (upper := (some (PySem.Expr.Constant (PySem.Const.int 6) 0 ⟨651, 73, 651, 74⟩))) (step := none) (pos := ⟨651, 72, 651, 74⟩))) (pos := ⟨651, 61, 651, 75⟩))]) (keywords := []) (pos := ⟨651, 55, 651, 76⟩))]) (k := 0) (pos := ⟨651, 44, 651, 77⟩)), (PySem.Expr.Tuple (elts := [ (PySem.Expr.Tuple (elts := [ (PySem.Expr.Constant (PySem.Const.int 0) 0 ⟨651, 81, 651, 82⟩), (PySem.Expr.Constant (PySem.Const.int 0) 0 ⟨651, 84, 651, 85⟩)]) (k := 0) (pos := ⟨651, 80, 651, 86⟩))]) (k := 0) (pos := ⟨651, 79, 651, 88⟩))]) (keywords := []) (pos := ⟨651, 40, 651, 89⟩))
def lamScope7 : Scope := { kind := PySem.ScopeKind.function, names := [ (PySem.Str.ofString "_law_doors", PySem.NameKind.free), (PySem.Str.ofString "may", PySem.NameKind.globalImplicit), (PySem.Str.ofString "tuple", PySem.NameKind.globalImplicit)], isGenerator := false, isCoroutine := false, more := [] : PySem.Scope }
abbrev nmL (x : Str) : Str := (x ++ (".<locals>." : Str)) ++ ("<lambda>" : Str)
def wA1 : Arguments := { posonlyargs := [], args := [], vararg := none, kwonlyargs := [], kw_defaults := [], kwarg := none, defaults := [] : PySem.Arguments }
def wB1 : Expr := (PySem.Expr.Call (func := (PySem.Expr.Name "walk" ⟨607, 31, 607, 35⟩)) (args := [ (PySem.Expr.Name "_law_hall_here" ⟨607, 36, 607, 50⟩), (PySem.Expr.Constant (PySem.Const.int 5) 0 ⟨607, 52, 607, 53⟩), (PySem.Expr.Constant (PySem.Const.int 5) 0 ⟨607, 55, 607, 56⟩)]) (keywords := []) (pos := ⟨607, 31, 607, 57⟩))
def wS1 : Scope := { kind := PySem.ScopeKind.function, names := [ (PySem.Str.ofString "_law_hall_here", PySem.NameKind.free), (PySem.Str.ofString "walk", PySem.NameKind.globalImplicit)], isGenerator := false, isCoroutine := false, more := [] : PySem.Scope }
def wk1 (z : Addr) : LW := (fun c' => ⟨nmL "_law_works", wA1, wB1, wS1, [("_law_hall_here", z)], c'⟩, none)
def wA2 : Arguments := { posonlyargs := [], args := [{ arg := "_law_a", annotation := none, pos := ⟨607, 66, 607, 72⟩ : PySem.Arg }], vararg := none, kwonlyargs := [], kw_defaults := [], kwarg := none, defaults := [(PySem.Expr.Constant (PySem.Const.int 0) 0 ⟨607, 73, 607, 74⟩)] : PySem.Arguments }
def wB2 : Expr := (PySem.Expr.Call (func := (PySem.Expr.Name "may" ⟨607, 76, 607, 79⟩)) (args := [ (PySem.Expr.Name "_law_hall_here" ⟨607, 80, 607, 94⟩), (PySem.Expr.Constant (PySem.Const.int 5) 0 ⟨607, 96, 607, 97⟩)]) (keywords := []) (pos := ⟨607, 76, 607, 98⟩))
def wS2 : Scope := { kind := PySem.ScopeKind.function, names := [ (PySem.Str.ofString "_law_a", PySem.NameKind.local), (PySem.Str.ofString "_law_hall_here", PySem.NameKind.free), (PySem.Str.ofString "may", PySem.NameKind.globalImplicit)], isGenerator := false, isCoroutine := false, more := [] : PySem.Scope }
def wk2 (z : Addr) : LW := (fun c' => ⟨nmL "_law_works", wA2, wB2, wS2, [("_law_hall_here", z)], c'⟩, some 0)
def wA3 : Arguments := { posonlyargs := [], args := [{ arg := "_law_b", annotation := none, pos := ⟨607, 107, 607, 113⟩ : PySem.Arg }], vararg := none, kwonlyargs := [], kw_defaults := [], kwarg := none, defaults := [(PySem.Expr.Constant (PySem.Const.int 0) 0 ⟨607, 114, 607, 115⟩)] : PySem.Arguments }
def wB3 : Expr := (PySem.Expr.Call (func := (PySem.Expr.Name "shortest" ⟨607, 117, 607, 125⟩)) (args := [ (PySem.Expr.Name "_law_hall_here" ⟨607, 126, 607, 140⟩), (PySem.Expr.Constant (PySem.Const.int 5) 0 ⟨607, 142, 607, 143⟩), (PySem.Expr.Constant (PySem.Const.int 5) 0 ⟨607, 145, 607, 146⟩)]) (keywords := []) (pos := ⟨607, 117, 607, 147⟩))
def wS3 : Scope := { kind := PySem.ScopeKind.function, names := [ (PySem.Str.ofString "_law_b", PySem.NameKind.local), (PySem.Str.ofString "_law_hall_here", PySem.NameKind.free), (PySem.Str.ofString "shortest", PySem.NameKind.globalImplicit)], isGenerator := false, isCoroutine := false, more := [] : PySem.Scope }
def wk3 (z : Addr) : LW := (fun c' => ⟨nmL "_law_works", wA3, wB3, wS3, [("_law_hall_here", z)], c'⟩, some 0)
def wA4 : Arguments := { posonlyargs := [], args := [], vararg := none, kwonlyargs := [], kw_defaults := [], kwarg := none, defaults := [] : PySem.Arguments }
def wB4 : Expr := (PySem.Expr.Call (func := (PySem.Expr.Name "gentlest" ⟨608, 49, 608, 57⟩)) (args := [ (PySem.Expr.Name "_law_hall_here" ⟨608, 58, 608, 72⟩), (PySem.Expr.Constant (PySem.Const.int 5) 0 ⟨608, 74, 608, 75⟩), (PySem.Expr.Constant (PySem.Const.int 5) 0 ⟨608, 77, 608, 78⟩)]) (keywords := []) (pos := ⟨608, 49, 608, 79⟩))
def wS4 : Scope := { kind := PySem.ScopeKind.function, names := [ (PySem.Str.ofString "_law_hall_here", PySem.NameKind.free), (PySem.Str.ofString "gentlest", PySem.NameKind.globalImplicit)], isGenerator := false, isCoroutine := false, more := [] : PySem.Scope }
def wk4 (z : Addr) : LW := (fun c' => ⟨nmL "_law_works", wA4, wB4, wS4, [("_law_hall_here", z)], c'⟩, none)
def wA5 : Arguments := { posonlyargs := [], args := [{ arg := "_law_a", annotation := none, pos := ⟨608, 88, 608, 94⟩ : PySem.Arg }], vararg := none, kwonlyargs := [], kw_defaults := [], kwarg := none, defaults := [(PySem.Expr.Constant (PySem.Const.int 0) 0 ⟨608, 95, 608, 96⟩)] : PySem.Arguments }
def wB5 : Expr := (PySem.Expr.Call (func := (PySem.Expr.Name "reached" ⟨608, 98, 608, 105⟩)) (args := [ (PySem.Expr.Name "_law_hall_here" ⟨608, 106, 608, 120⟩), (PySem.Expr.Constant (PySem.Const.int 5) 0 ⟨608, 122, 608, 123⟩)]) (keywords := []) (pos := ⟨608, 98, 608, 124⟩))
def wS5 : Scope := { kind := PySem.ScopeKind.function, names := [ (PySem.Str.ofString "_law_a", PySem.NameKind.local), (PySem.Str.ofString "_law_hall_here", PySem.NameKind.free), (PySem.Str.ofString "reached", PySem.NameKind.globalImplicit)], isGenerator := false, isCoroutine := false, more := [] : PySem.Scope }
def wk5 (z : Addr) : LW := (fun c' => ⟨nmL "_law_works", wA5, wB5, wS5, [("_law_hall_here", z)], c'⟩, some 0)
def wA6 : Arguments := { posonlyargs := [], args := [{ arg := "_law_b", annotation := none, pos := ⟨608, 133, 608, 139⟩ : PySem.Arg }], vararg := none, kwonlyargs := [], kw_defaults := [], kwarg := none, defaults := [(PySem.Expr.Constant (PySem.Const.int 0) 0 ⟨608, 140, 608, 141⟩)] : PySem.Arguments }
def wB6 : Expr := (PySem.Expr.Call (func := (PySem.Expr.Name "still" ⟨608, 143, 608, 148⟩)) (args := [ (PySem.Expr.Name "_law_hall_here" ⟨608, 149, 608, 163⟩), (PySem.Expr.Constant (PySem.Const.int 5) 0 ⟨608, 165, 608, 166⟩)]) (keywords := []) (pos := ⟨608, 143, 608, 167⟩))
def wS6 : Scope := { kind := PySem.ScopeKind.function, names := [ (PySem.Str.ofString "_law_b", PySem.NameKind.local), (PySem.Str.ofString "_law_hall_here", PySem.NameKind.free), (PySem.Str.ofString "still", PySem.NameKind.globalImplicit)], isGenerator := false, isCoroutine := false, more := [] : PySem.Scope }
def wk6 (z : Addr) : LW := (fun c' => ⟨nmL "_law_works", wA6, wB6, wS6, [("_law_hall_here", z)], c'⟩, some 0)
def wA7 : Arguments := { posonlyargs := [], args := [], vararg := none, kwonlyargs := [], kw_defaults := [], kwarg := none, defaults := [] : PySem.Arguments }
def wB7 : Expr := (PySem.Expr.Call (func := (PySem.Expr.Name "oneway" ⟨609, 49, 609, 55⟩)) (args := [ (PySem.Expr.Name "_law_hall_here" ⟨609, 56, 609, 70⟩), (PySem.Expr.Constant (PySem.Const.int 5) 0 ⟨609, 72, 609, 73⟩)]) (keywords := []) (pos := ⟨609, 49, 609, 74⟩))
def wS7 : Scope := { kind := PySem.ScopeKind.function, names := [ (PySem.Str.ofString "_law_hall_here", PySem.NameKind.free), (PySem.Str.ofString "oneway", PySem.NameKind.globalImplicit)], isGenerator := false, isCoroutine := false, more := [] : PySem.Scope }
def wk7 (z : Addr) : LW := (fun c' => ⟨nmL "_law_works", wA7, wB7, wS7, [("_law_hall_here", z)], c'⟩, none)
def wA8 : Arguments := { posonlyargs := [], args := [{ arg := "_law_a", annotation := none, pos := ⟨609, 83, 609, 89⟩ : PySem.Arg }], vararg := none, kwonlyargs := [], kw_defaults := [], kwarg := none, defaults := [(PySem.Expr.Constant (PySem.Const.int 0) 0 ⟨609, 90, 609, 91⟩)] : PySem.Arguments }
def wB8 : Expr := (PySem.Expr.Call (func := (PySem.Expr.Name "lost" ⟨609, 93, 609, 97⟩)) (args := [ (PySem.Expr.Name "_law_hall_here" ⟨609, 98, 609, 112⟩), (PySem.Expr.Constant (PySem.Const.int 5) 0 ⟨609, 114, 609, 115⟩), (PySem.Expr.Constant (PySem.Const.int 5) 0 ⟨609, 117, 609, 118⟩)]) (keywords := []) (pos := ⟨609, 93, 609, 119⟩))
def wS8 : Scope := { kind := PySem.ScopeKind.function, names := [ (PySem.Str.ofString "_law_a", PySem.NameKind.local), (PySem.Str.ofString "_law_hall_here", PySem.NameKind.free), (PySem.Str.ofString "lost", PySem.NameKind.globalImplicit)], isGenerator := false, isCoroutine := false, more := [] : PySem.Scope }
def wk8 (z : Addr) : LW := (fun c' => ⟨nmL "_law_works", wA8, wB8, wS8, [("_law_hall_here", z)], c'⟩, some 0)
def wA9 : Arguments := { posonlyargs := [], args := [{ arg := "_law_b", annotation := none, pos := ⟨609, 128, 609, 134⟩ : PySem.Arg }], vararg := none, kwonlyargs := [], kw_defaults := [], kwarg := none, defaults := [(PySem.Expr.Constant (PySem.Const.int 0) 0 ⟨609, 135, 609, 136⟩)] : PySem.Arguments }
def wB9 : Expr := (PySem.Expr.Call (func := (PySem.Expr.Name "far" ⟨609, 138, 609, 141⟩)) (args := [ (PySem.Expr.Name "_law_hall_here" ⟨609, 142, 609, 156⟩), (PySem.Expr.Constant (PySem.Const.int 5) 0 ⟨609, 158, 609, 159⟩)]) (keywords := []) (pos := ⟨609, 138, 609, 160⟩))
def wS9 : Scope := { kind := PySem.ScopeKind.function, names := [ (PySem.Str.ofString "_law_b", PySem.NameKind.local), (PySem.Str.ofString "_law_hall_here", PySem.NameKind.free), (PySem.Str.ofString "far", PySem.NameKind.globalImplicit)], isGenerator := false, isCoroutine := false, more := [] : PySem.Scope }
def wk9 (z : Addr) : LW := (fun c' => ⟨nmL "_law_works", wA9, wB9, wS9, [("_law_hall_here", z)], c'⟩, some 0)
def wA10 : Arguments := { posonlyargs := [], args := [], vararg := none, kwonlyargs := [], kw_defaults := [], kwarg := none, defaults := [] : PySem.Arguments }
def wB10 : Expr := (PySem.Expr.Call (func := (PySem.Expr.Name "paper" ⟨610, 49, 610, 54⟩)) (args := [ (PySem.Expr.Name "_law_hall_here" ⟨610, 55, 610, 69⟩), (PySem.Expr.Constant (PySem.Const.int 5) 0 ⟨610, 71, 610, 72⟩), (PySem.Expr.Constant (PySem.Const.int 5) 0 ⟨610, 74, 610, 75⟩)]) (keywords := []) (pos := ⟨610, 49, 610, 76⟩))
def wS10 : Scope := { kind := PySem.ScopeKind.function, names := [ (PySem.Str.ofString "_law_hall_here", PySem.NameKind.free), (PySem.Str.ofString "paper", PySem.NameKind.globalImplicit)], isGenerator := false, isCoroutine := false, more := [] : PySem.Scope }
def wk10 (z : Addr) : LW := (fun c' => ⟨nmL "_law_works", wA10, wB10, wS10, [("_law_hall_here", z)], c'⟩, none)
def wA11 : Arguments := { posonlyargs := [], args := [{ arg := "_law_a", annotation := none, pos := ⟨610, 85, 610, 91⟩ : PySem.Arg }], vararg := none, kwonlyargs := [], kw_defaults := [], kwarg := none, defaults := [(PySem.Expr.Constant (PySem.Const.int 0) 0 ⟨610, 92, 610, 93⟩)] : PySem.Arguments }
def wB11 : Expr := (PySem.Expr.Call (func := (PySem.Expr.Name "shows" ⟨610, 95, 610, 100⟩)) (args := [ (PySem.Expr.Name "_law_hall_here" ⟨610, 101, 610, 115⟩), (PySem.Expr.Constant (PySem.Const.int 5) 0 ⟨610, 117, 610, 118⟩), (PySem.Expr.Constant (PySem.Const.int 5) 0 ⟨610, 120, 610, 121⟩), (PySem.Expr.Constant (PySem.Const.int 5) 0 ⟨610, 123, 610, 124⟩)]) (keywords := []) (pos := ⟨610, 95, 610, 125⟩))
def wS11 : Scope := { kind := PySem.ScopeKind.function, names := [ (PySem.Str.ofString "_law_a", PySem.NameKind.local), (PySem.Str.ofString "_law_hall_here", PySem.NameKind.free), (PySem.Str.ofString "shows", PySem.NameKind.globalImplicit)], isGenerator := false, isCoroutine := false, more := [] : PySem.Scope }
def wk11 (z : Addr) : LW := (fun c' => ⟨nmL "_law_works", wA11, wB11, wS11, [("_law_hall_here", z)], c'⟩, some 0)
def wA12 : Arguments := { posonlyargs := [], args := [], vararg := none, kwonlyargs := [], kw_defaults := [], kwarg := none, defaults := [] : PySem.Arguments }
def wB12 : Expr := (PySem.Expr.Call (func := (PySem.Expr.Name "lifted" ⟨611, 35, 611, 41⟩)) (args := [ (PySem.Expr.Name "_law_hall_here" ⟨611, 42, 611, 56⟩), (PySem.Expr.Constant (PySem.Const.int 5) 0 ⟨611, 58, 611, 59⟩), (PySem.Expr.Constant (PySem.Const.int 5) 0 ⟨611, 61, 611, 62⟩)]) (keywords := [ { arg := (some "most"), value := (PySem.Expr.Constant (PySem.Const.int 9) 0 ⟨611, 69, 611, 70⟩), pos := ⟨611, 64, 611, 70⟩ : PySem.Keyword }]) (pos := ⟨611, 35, 611, 71⟩))
def wS12 : Scope := { kind := PySem.ScopeKind.function, names := [ (PySem.Str.ofString "_law_hall_here", PySem.NameKind.free), (PySem.Str.ofString "lifted", PySem.NameKind.globalImplicit)], isGenerator := false, isCoroutine := false, more := [] : PySem.Scope }
def wk12 (z : Addr) : LW := (fun c' => ⟨nmL "_law_works", wA12, wB12, wS12, [("_law_hall_here", z)], c'⟩, none)
def wA13 : Arguments := { posonlyargs := [], args := [], vararg := none, kwonlyargs := [], kw_defaults := [], kwarg := none, defaults := [] : PySem.Arguments }
def wB13 : Expr := (PySem.Expr.Call (func := (PySem.Expr.Name "turned" ⟨612, 49, 612, 55⟩)) (args := [ (PySem.Expr.Name "_law_hall_here" ⟨612, 56, 612, 70⟩), (PySem.Expr.Constant (PySem.Const.int 5) 0 ⟨612, 72, 612, 73⟩)]) (keywords := []) (pos := ⟨612, 49, 612, 74⟩))
def wS13 : Scope := { kind := PySem.ScopeKind.function, names := [ (PySem.Str.ofString "_law_hall_here", PySem.NameKind.free), (PySem.Str.ofString "turned", PySem.NameKind.globalImplicit)], isGenerator := false, isCoroutine := false, more := [] : PySem.Scope }
def wk13 (z : Addr) : LW := (fun c' => ⟨nmL "_law_works", wA13, wB13, wS13, [("_law_hall_here", z)], c'⟩, none)
def wA14 : Arguments := { posonlyargs := [], args := [{ arg := "_law_a", annotation := none, pos := ⟨612, 83, 612, 89⟩ : PySem.Arg }], vararg := none, kwonlyargs := [], kw_defaults := [], kwarg := none, defaults := [(PySem.Expr.Constant (PySem.Const.int 0) 0 ⟨612, 90, 612, 91⟩)] : PySem.Arguments }
def wB14 : Expr := (PySem.Expr.Call (func := (PySem.Expr.Name "mirrored" ⟨612, 93, 612, 101⟩)) (args := [ (PySem.Expr.Name "_law_hall_here" ⟨612, 102, 612, 116⟩), (PySem.Expr.Constant (PySem.Const.int 5) 0 ⟨612, 118, 612, 119⟩)]) (keywords := []) (pos := ⟨612, 93, 612, 120⟩))
def wS14 : Scope := { kind := PySem.ScopeKind.function, names := [ (PySem.Str.ofString "_law_a", PySem.NameKind.local), (PySem.Str.ofString "_law_hall_here", PySem.NameKind.free), (PySem.Str.ofString "mirrored", PySem.NameKind.globalImplicit)], isGenerator := false, isCoroutine := false, more := [] : PySem.Scope }
def wk14 (z : Addr) : LW := (fun c' => ⟨nmL "_law_works", wA14, wB14, wS14, [("_law_hall_here", z)], c'⟩, some 0)
def wA15 : Arguments := { posonlyargs := [], args := [{ arg := "_law_b", annotation := none, pos := ⟨612, 129, 612, 135⟩ : PySem.Arg }], vararg := none, kwonlyargs := [], kw_defaults := [], kwarg := none, defaults := [(PySem.Expr.Constant (PySem.Const.int 0) 0 ⟨612, 136, 612, 137⟩)] : PySem.Arguments }
def wB15 : Expr := (PySem.Expr.Call (func := (PySem.Expr.Name "Bench" ⟨612, 139, 612, 144⟩)) (args := [ (PySem.Expr.Name "_law_hall_here" ⟨612, 145, 612, 159⟩), (PySem.Expr.Constant (PySem.Const.int 5) 0 ⟨612, 161, 612, 162⟩)]) (keywords := []) (pos := ⟨612, 139, 612, 163⟩))
def wS15 : Scope := { kind := PySem.ScopeKind.function, names := [ (PySem.Str.ofString "_law_b", PySem.NameKind.local), (PySem.Str.ofString "_law_hall_here", PySem.NameKind.free), (PySem.Str.ofString "Bench", PySem.NameKind.globalImplicit)], isGenerator := false, isCoroutine := false, more := [] : PySem.Scope }
def wk15 (z : Addr) : LW := (fun c' => ⟨nmL "_law_works", wA15, wB15, wS15, [("_law_hall_here", z)], c'⟩, some 0)
def wA16 : Arguments := { posonlyargs := [], args := [], vararg := none, kwonlyargs := [], kw_defaults := [], kwarg := none, defaults := [] : PySem.Arguments }
def wB16 : Expr := (PySem.Expr.Call (func := (PySem.Expr.Name "written" ⟨613, 38, 613, 45⟩)) (args := [ (PySem.Expr.Name "_law_hall_here" ⟨613, 46, 613, 60⟩), (PySem.Expr.Constant (PySem.Const.int 5) 0 ⟨613, 62, 613, 63⟩)]) (keywords := []) (pos := ⟨613, 38, 613, 64⟩))
def wS16 : Scope := { kind := PySem.ScopeKind.function, names := [ (PySem.Str.ofString "_law_hall_here", PySem.NameKind.free), (PySem.Str.ofString "written", PySem.NameKind.globalImplicit)], isGenerator := false, isCoroutine := false, more := [] : PySem.Scope }
def wk16 (z : Addr) : LW := (fun c' => ⟨nmL "_law_works", wA16, wB16, wS16, [("_law_hall_here", z)], c'⟩, none)
def wks (z : Addr) : List LW := [wk1 z, wk2 z, wk3 z, wk4 z, wk5 z, wk6 z, wk7 z, wk8 z, wk9 z, wk10 z, wk11 z, wk12 z, wk13 z, wk14 z, wk15 z, wk16 z]
end Pd
/-! RulJ -/
set_option Elab.async false
set_option linter.all false
set_option maxRecDepth 100000
set_option maxHeartbeats 4000000
/-! a suite whose first statement never ends as usual: the rest need not be read -/
namespace Pd
variable [Pd.Wd]
open PySem PySem.Spec PyProof.Rows L2
theorem pss_never {X : Cx} {b : List Stmt} : PSs X b tNever := ⟨fun pins s σ H D I h => h.elim⟩
theorem pss_first {X : Cx} {s : Stmt} {b : List Stmt} {t : TS} (h : PS X s t) : PSs X (s :: b) (tSeq t tNever) := pss_cons h pss_never
end Pd
/-! B01b -/
set_option Elab.async false
set_option linter.all false
set_option maxRecDepth 100000
set_option maxHeartbeats 4000000
namespace Pd
variable [Pd.Wd]
open PySem PySem.Spec PyProof.Rows L2
structure Txt (K : PySem.W.Frag) (mg : Str → Option Value) (w : World) (aWAYS aWAYS_TURNED aWAYS_MIRRORED : Addr) : Prop where
  b_bool : mg "bool" = none
  b_enumerate : mg "enumerate" = none
  b_int : mg "int" = none
  b_isinstance : mg "isinstance" = none
  b_len : mg "len" = none
  b_list : mg "list" = none
  b_max : mg "max" = none
  b_min : mg "min" = none
  b_range : mg "range" = none
  b_sorted : mg "sorted" = none
  b_str : mg "str" = none
  b_tuple : mg "tuple" = none
  b_zip : mg "zip" = none
  c_WAYS : mg "WAYS" = some (.ref aWAYS)
  c_MOST_SIDE : ∃ t, mg "MOST_SIDE" = some (.int 5 t)
  c_MOST_WALLS : ∃ t, mg "MOST_WALLS" = some (.int 24 t)
  c_MOST_DOORS : ∃ t, mg "MOST_DOORS" = some (.int 6 t)
  c_MOST_WALKERS : ∃ t, mg "MOST_WALKERS" = some (.int 3 t)
  c_LETTERS : ∃ t, mg "LETTERS" = some (.str "abcdefghijklmnopqrstuvwxyz" t)
  c_LONGEST_NAME : ∃ t, mg "LONGEST_NAME" = some (.int 8 t)
  c_MOST_STANDINGS : ∃ t, mg "MOST_STANDINGS" = some (.int 4000 t)
  c_WAYS_TURNED : mg "WAYS_TURNED" = some (.ref aWAYS_TURNED)
  c_WAYS_MIRRORED : mg "WAYS_MIRRORED" = some (.ref aWAYS_MIRRORED)
  s_WAYS : ∀ H : Hp, SqT K H aWAYS [.str "e", .str "n", .str "s", .str "w"]
abbrev n_is_number : List Str := ["value"]
abbrev p_is_number : List Str := ["value"]
theorem sc_is_number : FnScope n_is_number p_is_number (defScope s_is_number) := ⟨rfl, rfl, rfl, by decide +kernel, rfl, by decide +kernel, by decide +kernel⟩
theorem bd_is_number {P : Program} {w : World} {K : PySem.W.Frag} {mg : Str → Option Value} {base : Heap} {f : Addr} {cdv : Value} {A : Around} {outer : List Env} {s : Shared} {H : Hp} {E : XK} {aWAYS aWAYS_TURNED aWAYS_MIRRORED : Addr} (T : Txt K mg w aWAYS aWAYS_TURNED aWAYS_MIRRORED) (hr : Room 0 (A.deeper (envOfC "is_number" (defScope s_is_number) s.heap.objs.size f cdv))) :
    PSs (cxOf CX0 P w K mg base n_is_number "is_number" (defScope s_is_number) f cdv A outer s H E).nox (defBody s_is_number) (rd_is_number K) := by
  have nd : n_is_number.Nodup := sc_is_number.nd
  exact (pss_one (ps_ret (pe_and (pe_callB call_isi (by rfl) T.b_isinstance (by decide +kernel) (pa_cons (pv 0) (pa_cons (pe_bltn (v := .ty "int") (by rfl) T.b_int (by decide +kernel) rfl) pa_nil))) (pe_one (pe_not (pe_callB call_isi (by rfl) T.b_isinstance (by decide +kernel) (pa_cons (pv 0) (pa_cons (pe_bltn (v := .ty "bool") (by rfl) T.b_bool (by decide +kernel) rfl) pa_nil))))))))
abbrev n_is_side : List Str := ["value"]
abbrev p_is_side : List Str := ["value"]
theorem sc_is_side : FnScope n_is_side p_is_side (defScope s_is_side) := ⟨rfl, rfl, rfl, by decide +kernel, rfl, by decide +kernel, by decide +kernel⟩
theorem bd_is_side {P : Program} {w : World} {K : PySem.W.Frag} {mg : Str → Option Value} {base : Heap} {f : Addr} {cdv : Value} {A : Around} {outer : List Env} {s : Shared} {H : Hp} {E : XK} {aWAYS aWAYS_TURNED aWAYS_MIRRORED : Addr} {sp_is_number : Sp} (T : Txt K mg w aWAYS aWAYS_TURNED aWAYS_MIRRORED) (hr : Room 1 (A.deeper (envOfC "is_side" (defScope s_is_side) s.heap.objs.size f cdv))) (G_is_number : DefS P w K mg base CX0 1 "is_number" p_is_number sp_is_number) :
    PSs (cxOf CX0 P w K mg base n_is_side "is_side" (defScope s_is_side) f cdv A outer s H E).nox (defBody s_is_side) (rd_is_side K sp_is_number) := by
  have nd : n_is_side.Nodup := sc_is_side.nd
  exact (pss_one (ps_ret (pe_and (pe_dcall G_is_number (hr.mono (by first | decide | omega)) (pa_cons (pv 0) pa_nil)) (pe_one (pe_chain op_le op_le pe_int (pv 0) (pe_globI (by rfl) T.c_MOST_SIDE))))))
abbrev n_is_cell : List Str := ["hall", "value", "row", "column"]
abbrev p_is_cell : List Str := ["hall", "value"]
theorem sc_is_cell : FnScope n_is_cell p_is_cell (defScope s_is_cell) := ⟨rfl, rfl, rfl, by decide +kernel, rfl, by decide +kernel, by decide +kernel⟩
theorem bd_is_cell {P : Program} {w : World} {K : PySem.W.Frag} {mg : Str → Option Value} {base : Heap} {f : Addr} {cdv : Value} {A : Around} {outer : List Env} {s : Shared} {H : Hp} {E : XK} {aWAYS aWAYS_TURNED aWAYS_MIRRORED : Addr} {sp_is_number : Sp} (T : Txt K mg w aWAYS aWAYS_TURNED aWAYS_MIRRORED) (hr : Room 1 (A.deeper (envOfC "is_cell" (defScope s_is_cell) s.heap.objs.size f cdv))) (G_is_number : DefS P w K mg base CX0 1 "is_number" p_is_number sp_is_number) :
    PSs (cxOf CX0 P w K mg base n_is_cell "is_cell" (defScope s_is_cell) f cdv A outer s H E).nox (defBody s_is_cell) (rd_is_cell K sp_is_number) := by
  have nd : n_is_cell.Nodup := sc_is_cell.nd
  exact (pss_cons (ps_if (PW.pt (pw_or (pt_not (pt_val (pe_callB call_isi (by rfl) T.b_isinstance (by decide +kernel) (pa_cons (pv 1) (pa_cons (pe_bltn (v := .ty "tuple") (by rfl) T.b_tuple (by decide +kernel) rfl) pa_nil))))) (pw_or1 (pt_cmpR (op_neD hr.units) (pe_callB call_len (by rfl) T.b_len PySem.boot_len (pa_cons (pv 1) pa_nil)) pe_int (nomark _))))) (pss_one (ps_ret pe_bl)) pss_nil) (pss_cons (ps_asg (pv 1) (pg_tup rfl (pgs_cons (pg_name (i := 2) nd rfl (Or.inl rfl)) (pgs_cons (pg_name (i := 3) nd rfl (Or.inl rfl)) pgs_nil)))) (pss_cons (ps_if (PW.pt (pw_or (pt_not (pt_val (pe_dcall G_is_number (hr.mono (by first | decide | omega)) (pa_cons (pv 2) pa_nil)))) (pw_or1 (pt_not (pt_val (pe_dcall G_is_number (hr.mono (by first | decide | omega)) (pa_cons (pv 3) pa_nil))))))) (pss_one (ps_ret pe_bl)) pss_nil) (pss_one (ps_ret (pe_and (pe_chain op_le op_lt pe_int (pv 2) (pe_ix ix_seq (pv 0) pe_int (fun _ _ => rfl))) (pe_one (pe_chain op_le op_lt pe_int (pv 3) (pe_ix ix_seq (pv 0) pe_int (fun _ _ => rfl))))))))))
abbrev n_is_edge : List Str := ["hall", "value", "row", "column", "sign"]
abbrev p_is_edge : List Str := ["hall", "value"]
theorem sc_is_edge : FnScope n_is_edge p_is_edge (defScope s_is_edge) := ⟨rfl, rfl, rfl, by decide +kernel, rfl, by decide +kernel, by decide +kernel⟩
theorem bd_is_edge {P : Program} {w : World} {K : PySem.W.Frag} {mg : Str → Option Value} {base : Heap} {f : Addr} {cdv : Value} {A : Around} {outer : List Env} {s : Shared} {H : Hp} {E : XK} {aWAYS aWAYS_TURNED aWAYS_MIRRORED : Addr} {sp_is_cell : Sp} (T : Txt K mg w aWAYS aWAYS_TURNED aWAYS_MIRRORED) (hr : Room 2 (A.deeper (envOfC "is_edge" (defScope s_is_edge) s.heap.objs.size f cdv))) (G_is_cell : DefS P w K mg base CX0 2 "is_cell" p_is_cell sp_is_cell) :
    PSs (cxOf CX0 P w K mg base n_is_edge "is_edge" (defScope s_is_edge) f cdv A outer s H E).nox (defBody s_is_edge) (rd_is_edge K sp_is_cell) := by
  have nd : n_is_edge.Nodup := sc_is_edge.nd
  exact (pss_cons (ps_if (PW.pt (pw_or (pt_not (pt_val (pe_callB call_isi (by rfl) T.b_isinstance (by decide +kernel) (pa_cons (pv 1) (pa_cons (pe_bltn (v := .ty "tuple") (by rfl) T.b_tuple (by decide +kernel) rfl) pa_nil))))) (pw_or1 (pt_cmpR (op_neD hr.units) (pe_callB call_len (by rfl) T.b_len PySem.boot_len (pa_cons (pv 1) pa_nil)) pe_int (nomark _))))) (pss_one (ps_ret pe_bl)) pss_nil) (pss_cons (ps_asg (pv 1) (pg_tup rfl (pgs_cons (pg_name (i := 2) nd rfl (Or.inl rfl)) (pgs_cons (pg_name (i := 3) nd rfl (Or.inl rfl)) (pgs_cons (pg_name (i := 4) nd rfl (Or.inl rfl)) pgs_nil))))) (pss_cons (ps_if (pt_not (pt_val (pe_dcall G_is_cell (hr.mono (by first | decide | omega)) (pa_cons (pv 0) (pa_cons (pe_tup (pa_cons (pv 2) (pa_cons (pv 3) pa_nil))) pa_nil))))) (pss_one (ps_ret pe_bl)) pss_nil) (pss_cons (ps_if (pt_cmpR (op_eqD hr.units) (pv 4) pe_str (nomark _)) (pss_one (ps_ret (pe_cmpR op_gt (pv 2) pe_int (nomark _)))) pss_nil) (pss_one (ps_ret (pe_and (pe_cmpR (op_eqD hr.units) (pv 4) pe_str (nomark _)) (pe_one (pe_cmpR op_gt (pv 3) pe_int (nomark _))))))))))
abbrev n_edge_from : List Str := ["row", "column", "way"]
abbrev p_edge_from : List Str := ["row", "column", "way"]
theorem sc_edge_from : FnScope n_edge_from p_edge_from (defScope s_edge_from) := ⟨rfl, rfl, rfl, by decide +kernel, rfl, by decide +kernel, by decide +kernel⟩
theorem bd_edge_from {P : Program} {w : World} {K : PySem.W.Frag} {mg : Str → Option Value} {base : Heap} {f : Addr} {cdv : Value} {A : Around} {outer : List Env} {s : Shared} {H : Hp} {E : XK} {aWAYS aWAYS_TURNED aWAYS_MIRRORED : Addr} (T : Txt K mg w aWAYS aWAYS_TURNED aWAYS_MIRRORED) (hr : Room 0 (A.deeper (envOfC "edge_from" (defScope s_edge_from) s.heap.objs.size f cdv))) :
    PSs (cxOf CX0 P w K mg base n_edge_from "edge_from" (defScope s_edge_from) f cdv A outer s H E).nox (defBody s_edge_from) (rd_edge_from K) := by
  have nd : n_edge_from.Nodup := sc_edge_from.nd
  exact (pss_cons (ps_if (pt_cmpR (op_eqD hr.units) (pv 2) pe_str (nomark _)) (pss_one (ps_ret (pe_tup (pa_cons (pe_op op_sub (pv 0) pe_int) (pa_cons (pv 1) (pa_cons pe_str pa_nil)))))) pss_nil) (pss_cons (ps_if (pt_cmpR (op_eqD hr.units) (pv 2) pe_str (nomark _)) (pss_one (ps_ret (pe_tup (pa_cons (pv 0) (pa_cons (pv 1) (pa_cons pe_str pa_nil)))))) pss_nil) (pss_cons (ps_if (pt_cmpR (op_eqD hr.units) (pv 2) pe_str (nomark _)) (pss_one (ps_ret (pe_tup (pa_cons (pv 0) (pa_cons (pv 1) (pa_cons pe_str pa_nil)))))) pss_nil) (pss_one (ps_ret (pe_tup (pa_cons (pv 0) (pa_cons (pe_op op_sub (pv 1) pe_int) (pa_cons pe_str pa_nil)))))))))
abbrev n_edge_crossed : List Str := ["cell", "way", "row", "column"]
abbrev p_edge_crossed : List Str := ["cell", "way"]
theorem sc_edge_crossed : FnScope n_edge_crossed p_edge_crossed (defScope s_edge_crossed) := ⟨rfl, rfl, rfl, by decide +kernel, rfl, by decide +kernel, by decide +kernel⟩
theorem bd_edge_crossed {P : Program} {w : World} {K : PySem.W.Frag} {mg : Str → Option Value} {base : Heap} {f : Addr} {cdv : Value} {A : Around} {outer : List Env} {s : Shared} {H : Hp} {E : XK} {aWAYS aWAYS_TURNED aWAYS_MIRRORED : Addr} (T : Txt K mg w aWAYS aWAYS_TURNED aWAYS_MIRRORED) (hr : Room 0 (A.deeper (envOfC "edge_crossed" (defScope s_edge_crossed) s.heap.objs.size f cdv))) :
    PSs (cxOf CX0 P w K mg base n_edge_crossed "edge_crossed" (defScope s_edge_crossed) f cdv A outer s H E).nox (defBody s_edge_crossed) (rd_edge_crossed K) := by
  have nd : n_edge_crossed.Nodup := sc_edge_crossed.nd
  exact (pss_cons (ps_asg (pv 0) (pg_tup rfl (pgs_cons (pg_name (i := 2) nd rfl (Or.inl rfl)) (pgs_cons (pg_name (i := 3) nd rfl (Or.inl rfl)) pgs_nil)))) (pss_cons (ps_if (pt_cmpR (op_eqD hr.units) (pv 1) pe_str (nomark _)) (pss_one (ps_ret (pe_tup (pa_cons (pv 2) (pa_cons (pv 3) (pa_cons pe_str pa_nil)))))) pss_nil) (pss_cons (ps_if (pt_cmpR (op_eqD hr.units) (pv 1) pe_str (nomark _)) (pss_one (ps_ret (pe_tup (pa_cons (pv 2) (pa_cons (pe_op op_addX (pv 3) pe_int) (pa_cons pe_str pa_nil)))))) pss_nil) (pss_cons (ps_if (pt_cmpR (op_eqD hr.units) (pv 1) pe_str (nomark _)) (pss_one (ps_ret (pe_tup (pa_cons (pe_op op_addX (pv 2) pe_int) (pa_cons (pv 3) (pa_cons pe_str pa_nil)))))) pss_nil) (pss_one (ps_ret (pe_tup (pa_cons (pv 2) (pa_cons (pv 3) (pa_cons pe_str pa_nil))))))))))
abbrev n_next_cell : List Str := ["cell", "way", "row", "column"]
abbrev p_next_cell : List Str := ["cell", "way"]
theorem sc_next_cell : FnScope n_next_cell p_next_cell (defScope s_next_cell) := ⟨rfl, rfl, rfl, by decide +kernel, rfl, by decide +kernel, by decide +kernel⟩
theorem bd_next_cell {P : Program} {w : World} {K : PySem.W.Frag} {mg : Str → Option Value} {base : Heap} {f : Addr} {cdv : Value} {A : Around} {outer : List Env} {s : Shared} {H : Hp} {E : XK} {aWAYS aWAYS_TURNED aWAYS_MIRRORED : Addr} (T : Txt K mg w aWAYS aWAYS_TURNED aWAYS_MIRRORED) (hr : Room 0 (A.deeper (envOfC "next_cell" (defScope s_next_cell) s.heap.objs.size f cdv))) :
    PSs (cxOf CX0 P w K mg base n_next_cell "next_cell" (defScope s_next_cell) f cdv A outer s H E).nox (defBody s_next_cell) (rd_next_cell K) := by
  have nd : n_next_cell.Nodup := sc_next_cell.nd
  exact (pss_cons (ps_asg (pv 0) (pg_tup rfl (pgs_cons (pg_name (i := 2) nd rfl (Or.inl rfl)) (pgs_cons (pg_name (i := 3) nd rfl (Or.inl rfl)) pgs_nil)))) (pss_cons (ps_if (pt_cmpR (op_eqD hr.units) (pv 1) pe_str (nomark _)) (pss_one (ps_ret (pe_tup (pa_cons (pe_op op_sub (pv 2) pe_int) (pa_cons (pv 3) pa_nil))))) pss_nil) (pss_cons (ps_if (pt_cmpR (op_eqD hr.units) (pv 1) pe_str (nomark _)) (pss_one (ps_ret (pe_tup (pa_cons (pv 2) (pa_cons (pe_op op_addX (pv 3) pe_int) pa_nil))))) pss_nil) (pss_cons (ps_if (pt_cmpR (op_eqD hr.units) (pv 1) pe_str (nomark _)) (pss_one (ps_ret (pe_tup (pa_cons (pe_op op_addX (pv 2) pe_int) (pa_cons (pv 3) pa_nil))))) pss_nil) (pss_one (ps_ret (pe_tup (pa_cons (pv 2) (pa_cons (pe_op op_sub (pv 3) pe_int) pa_nil)))))))))
abbrev n_door_edge : List Str := ["door", "row", "column", "way"]
abbrev p_door_edge : List Str := ["door"]
theorem sc_door_edge : FnScope n_door_edge p_door_edge (defScope s_door_edge) := ⟨rfl, rfl, rfl, by decide +kernel, rfl, by decide +kernel, by decide +kernel⟩
theorem bd_door_edge {P : Program} {w : World} {K : PySem.W.Frag} {mg : Str → Option Value} {base : Heap} {f : Addr} {cdv : Value} {A : Around} {outer : List Env} {s : Shared} {H : Hp} {E : XK} {aWAYS aWAYS_TURNED aWAYS_MIRRORED : Addr} {sp_edge_from : Sp} {sp_is_number : Sp} (T : Txt K mg w aWAYS aWAYS_TURNED aWAYS_MIRRORED) (hr : Room 1 (A.deeper (envOfC "door_edge" (defScope s_door_edge) s.heap.objs.size f cdv))) (G_edge_from : DefS P w K mg base CX0 1 "edge_from" p_edge_from sp_edge_from) (G_is_number : DefS P w K mg base CX0 1 "is_number" p_is_number sp_is_number) :
    PSs (cxOf CX0 P w K mg base n_door_edge "door_edge" (defScope s_door_edge) f cdv A outer s H E).nox (defBody s_door_edge) (rd_door_edge K aWAYS sp_edge_from sp_is_number) := by
  have nd : n_door_edge.Nodup := sc_door_edge.nd
  exact (pss_cons (ps_if (PW.pt (pw_or (pt_not (pt_val (pe_callB call_isi (by rfl) T.b_isinstance (by decide +kernel) (pa_cons (pv 0) (pa_cons (pe_bltn (v := .ty "tuple") (by rfl) T.b_tuple (by decide +kernel) rfl) pa_nil))))) (pw_or1 (pt_cmpR (op_neD hr.units) (pe_callB call_len (by rfl) T.b_len PySem.boot_len (pa_cons (pv 0) pa_nil)) pe_int (nomark _))))) (pss_one (ps_ret pe_non)) pss_nil) (pss_cons (ps_asg (pv 0) (pg_tup rfl (pgs_cons (pg_name (i := 1) nd rfl (Or.inl rfl)) (pgs_cons (pg_name (i := 2) nd rfl (Or.inl rfl)) (pgs_cons (pg_name (i := 3) nd rfl (Or.inl rfl)) pgs_nil))))) (pss_cons (ps_if (PW.pt (pw_or (pt_not (pt_val (pe_dcall G_is_number (hr.mono (by first | decide | omega)) (pa_cons (pv 1) pa_nil)))) (pw_or (pt_not (pt_val (pe_dcall G_is_number (hr.mono (by first | decide | omega)) (pa_cons (pv 2) pa_nil)))) (pw_or1 (pt_cmpR (op_notInX (hu65 hr)) (pv 3) (pe_glob (by rfl) T.c_WAYS rfl) (by rfl)))))) (pss_one (ps_ret pe_non)) pss_nil) (pss_one (ps_ret (pe_dcall G_edge_from (hr.mono (by first | decide | omega)) (pa_cons (pv 1) (pa_cons (pv 2) (pa_cons (pv 3) pa_nil)))))))))
abbrev n_door_edges : List Str := ["hall", "ways", "door", "way"]
abbrev p_door_edges : List Str := ["hall", "ways"]
theorem sc_door_edges : FnScope n_door_edges p_door_edges (defScope s_door_edges) := ⟨rfl, rfl, rfl, by decide +kernel, rfl, by decide +kernel, by decide +kernel⟩
theorem bd_door_edges {P : Program} {w : World} {K : PySem.W.Frag} {mg : Str → Option Value} {base : Heap} {f : Addr} {cdv : Value} {A : Around} {outer : List Env} {s : Shared} {H : Hp} {E : XK} {aWAYS aWAYS_TURNED aWAYS_MIRRORED : Addr} {sp_edge_from : Sp} (T : Txt K mg w aWAYS aWAYS_TURNED aWAYS_MIRRORED) (hr : Room 1 (A.deeper (envOfC "door_edges" (defScope s_door_edges) s.heap.objs.size f cdv))) (G_edge_from : DefS P w K mg base CX0 1 "edge_from" p_edge_from sp_edge_from) :
    PSs (cxOf CX0 P w K mg base n_door_edges "door_edges" (defScope s_door_edges) f cdv A outer s H E).nox (defBody s_door_edges) (rd_door_edges K sp_edge_from) := by
  have nd : n_door_edges.Nodup := sc_door_edges.nd
  exact (pss_one (ps_ret (pe_lc (own := [("door", 2), ("way", 3)]) (g := (gTup K 2 (gCons (gName 2) (gCons (gName 3) gNil)))) (tt := tYes) (te := (tCallD sp_edge_from (tCons (tOp (rIx K) (tVar 2) (tC (.int 0))) (tCons (tOp (rIx K) (tVar 2) (tC (.int 1))) (tCons (tVar 3) tNil))))) rfl nd (pi_zipTS (by rfl) T.b_zip (pa_cons (pe_ix ix_seq (pv 0) pe_int (fun _ _ => rfl)) (pa_cons (pv 1) pa_nil))) (blkOk_by (own := [("door", 2), ("way", 3)]) (N := ["hall", "ways", "door", "way"]) (sc := defScope s_door_edges) (by decide +kernel)) (fun _ _ _ _ _ => (pg_tup rfl (pgs_cons (pg_name (i := 2) nd rfl (Or.inl rfl)) (pgs_cons (pg_name (i := 3) nd rfl (Or.inl rfl)) pgs_nil)))) (fun _ _ _ _ _ => pts_nil) (fun _ _ _ _ _ => (pe_dcall G_edge_from (hr.mono (by first | decide | omega)) (pa_cons (pe_ix ix_seq (pv 2) pe_int (fun _ _ => rfl)) (pa_cons (pe_ix ix_seq (pv 2) pe_int (fun _ _ => rfl)) (pa_cons (pv 3) pa_nil))))))))
abbrev n_swung_ways : List Str := ["hall", "ways", "door", "way", "row", "column", "_", "edge"]
abbrev p_swung_ways : List Str := ["hall", "ways", "door", "way"]
theorem sc_swung_ways : FnScope n_swung_ways p_swung_ways (defScope s_swung_ways) := ⟨rfl, rfl, rfl, by decide +kernel, rfl, by decide +kernel, by decide +kernel⟩
theorem bd_swung_ways {P : Program} {w : World} {K : PySem.W.Frag} {mg : Str → Option Value} {base : Heap} {f : Addr} {cdv : Value} {A : Around} {outer : List Env} {s : Shared} {H : Hp} {E : XK} {aWAYS aWAYS_TURNED aWAYS_MIRRORED : Addr} {sp_door_edges : Sp} {sp_edge_from : Sp} {sp_is_edge : Sp} (T : Txt K mg w aWAYS aWAYS_TURNED aWAYS_MIRRORED) (hr : Room 3 (A.deeper (envOfC "swung_ways" (defScope s_swung_ways) s.heap.objs.size f cdv))) (G_door_edges : DefS P w K mg base CX0 2 "door_edges" p_door_edges sp_door_edges) (G_edge_from : DefS P w K mg base CX0 1 "edge_from" p_edge_from sp_edge_from) (G_is_edge : DefS P w K mg base CX0 3 "is_edge" p_is_edge sp_is_edge) :
    PSs (cxOf CX0 P w K mg base n_swung_ways "swung_ways" (defScope s_swung_ways) f cdv A outer s H E).nox (defBody s_swung_ways) (rd_swung_ways K sp_door_edges sp_edge_from sp_is_edge) := by
  have nd : n_swung_ways.Nodup := sc_swung_ways.nd
  exact (pss_cons (ps_asg (pe_ix ix_seq (pe_ix ix_seq (pv 0) pe_int (fun _ _ => rfl)) (pv 2) (fun _ _ => rfl)) (pg_tup rfl (pgs_cons (pg_name (i := 4) nd rfl (Or.inl rfl)) (pgs_cons (pg_name (i := 5) nd rfl (Or.inl rfl)) (pgs_cons (pg_name (i := 6) nd rfl (Or.inl rfl)) pgs_nil))))) (pss_cons (ps_set (i := 7) nd rfl (Or.inl rfl) (pe_dcall G_edge_from (hr.mono (by first | decide | omega)) (pa_cons (pv 4) (pa_cons (pv 5) (pa_cons (pv 3) pa_nil))))) (pss_cons (ps_if (PW.pt (pw_or (pt_not (pt_val (pe_dcall G_is_edge (hr.mono (by first | decide | omega)) (pa_cons (pv 0) (pa_cons (pv 7) pa_nil))))) (pw_or (pt_cmpR (op_inX (hu65 hr)) (pv 7) (pe_ix ix_seq (pv 0) pe_int (fun _ _ => rfl)) (by rfl)) (pw_or1 (pt_cmpR (op_inX (hu65 hr)) (pv 7) (pe_dcall G_door_edges (hr.mono (by first | decide | omega)) (pa_cons (pv 0) (pa_cons (pv 1) pa_nil))) (by rfl)))))) (pss_one (ps_ret pe_non)) pss_nil) (pss_one (ps_ret (pe_op op_addX (pe_op op_addX (pe_slice sl_X (pv 1) po_none (po_some (pv 2))) (pv 3)) (pe_slice sl_X (pv 1) (po_some (pe_op op_addX (pv 2) pe_int)) po_none)))))))
abbrev n_step_done : List Str := ["hall", "standing", "step", "cells", "ways", "walker", "way", "ahead", "crossed", "moved", "edges", "door", "swung"]
abbrev p_step_done : List Str := ["hall", "standing", "step"]
theorem sc_step_done : FnScope n_step_done p_step_done (defScope s_step_done) := ⟨rfl, rfl, rfl, by decide +kernel, rfl, by decide +kernel, by decide +kernel⟩
theorem bd_step_done {P : Program} {w : World} {K : PySem.W.Frag} {mg : Str → Option Value} {base : Heap} {f : Addr} {cdv : Value} {A : Around} {outer : List Env} {s : Shared} {H : Hp} {E : XK} {aWAYS aWAYS_TURNED aWAYS_MIRRORED : Addr} {sp_door_edges : Sp} {sp_edge_crossed : Sp} {sp_is_cell : Sp} {sp_next_cell : Sp} {sp_swung_ways : Sp} (T : Txt K mg w aWAYS aWAYS_TURNED aWAYS_MIRRORED) (hr : Room 4 (A.deeper (envOfC "step_done" (defScope s_step_done) s.heap.objs.size f cdv))) (G_door_edges : DefS P w K mg base CX0 2 "door_edges" p_door_edges sp_door_edges) (G_edge_crossed : DefS P w K mg base CX0 1 "edge_crossed" p_edge_crossed sp_edge_crossed) (G_is_cell : DefS P w K mg base CX0 2 "is_cell" p_is_cell sp_is_cell) (G_next_cell : DefS P w K mg base CX0 1 "next_cell" p_next_cell sp_next_cell) (G_swung_ways : DefS P w K mg base CX0 4 "swung_ways" p_swung_ways sp_swung_ways) :
    PSs (cxOf CX0 P w K mg base n_step_done "step_done" (defScope s_step_done) f cdv A outer s H E).nox (defBody s_step_done) (rd_step_done K sp_door_edges sp_edge_crossed sp_is_cell sp_next_cell sp_swung_ways) := by
  have nd : n_step_done.Nodup := sc_step_done.nd
  exact (pss_cons (ps_asg (pv 1) (pg_tup rfl (pgs_cons (pg_name (i := 3) nd rfl (Or.inl rfl)) (pgs_cons (pg_name (i := 4) nd rfl (Or.inl rfl)) pgs_nil)))) (pss_cons (ps_asg (pv 2) (pg_tup rfl (pgs_cons (pg_name (i := 5) nd rfl (Or.inl rfl)) (pgs_cons (pg_name (i := 6) nd rfl (Or.inl rfl)) pgs_nil)))) (pss_cons (ps_set (i := 7) nd rfl (Or.inl rfl) (pe_dcall G_next_cell (hr.mono (by first | decide | omega)) (pa_cons (pe_ix ix_seq (pv 3) (pv 5) (fun _ _ => rfl)) (pa_cons (pv 6) pa_nil)))) (pss_cons (ps_set (i := 8) nd rfl (Or.inl rfl) (pe_dcall G_edge_crossed (hr.mono (by first | decide | omega)) (pa_cons (pe_ix ix_seq (pv 3) (pv 5) (fun _ _ => rfl)) (pa_cons (pv 6) pa_nil)))) (pss_cons (ps_if (PW.pt (pw_or (pt_not (pt_val (pe_dcall G_is_cell (hr.mono (by first | decide | omega)) (pa_cons (pv 0) (pa_cons (pv 7) pa_nil))))) (pw_or (pt_cmpR (op_inX (hu65 hr)) (pv 7) (pv 3) (by rfl)) (pw_or1 (pt_cmpR (op_inX (hu65 hr)) (pv 8) (pe_ix ix_seq (pv 0) pe_int (fun _ _ => rfl)) (by rfl)))))) (pss_one (ps_ret pe_non)) pss_nil) (pss_cons (ps_set (i := 9) nd rfl (Or.inl rfl) (pe_op op_addX (pe_op op_addX (pe_slice sl_X (pv 3) po_none (po_some (pv 5))) (pe_tup (pa_cons (pv 7) pa_nil))) (pe_slice sl_X (pv 3) (po_some (pe_op op_addX (pv 5) pe_int)) po_none))) (pss_cons (ps_set (i := 10) nd rfl (Or.inl rfl) (pe_dcall G_door_edges (hr.mono (by first | decide | omega)) (pa_cons (pv 0) (pa_cons (pv 4) pa_nil)))) (pss_cons (ps_if (pt_cmpR (op_notInX (hu65 hr)) (pv 8) (pv 10) (by rfl)) (pss_one (ps_ret (pe_tup (pa_cons (pe_tup (pa_cons (pv 9) (pa_cons (pv 4) pa_nil))) (pa_cons pe_non pa_nil))))) pss_nil) (pss_cons (ps_set (i := 11) nd rfl (Or.inl rfl) (pe_bm PySem.F.plainAttrs_list PySem.F.slot_list_index PySem.F.type_list_index (mt_indexD (hu65 hr)) (pv 10) (pa_cons (pv 8) pa_nil))) (pss_cons (ps_set (i := 12) nd rfl (Or.inl rfl) (pe_dcall G_swung_ways (hr.mono (by first | decide | omega)) (pa_cons (pv 0) (pa_cons (pv 4) (pa_cons (pv 11) (pa_cons (pv 6) pa_nil)))))) (pss_cons (ps_if (pt_cmpR op_isN (pv 12) pe_non (nomark _)) (pss_one (ps_ret pe_non)) pss_nil) (pss_one (ps_ret (pe_tup (pa_cons (pe_tup (pa_cons (pv 9) (pa_cons (pv 12) pa_nil))) (pa_cons (pv 11) pa_nil))))))))))))))))
abbrev n_moves_from : List Str := ["hall", "standing", "moves", "walker", "way", "found"]
abbrev p_moves_from : List Str := ["hall", "standing"]
theorem sc_moves_from : FnScope n_moves_from p_moves_from (defScope s_moves_from) := ⟨rfl, rfl, rfl, by decide +kernel, rfl, by decide +kernel, by decide +kernel⟩
theorem bd_moves_from {P : Program} {w : World} {K : PySem.W.Frag} {mg : Str → Option Value} {base : Heap} {f : Addr} {cdv : Value} {A : Around} {outer : List Env} {s : Shared} {H : Hp} {E : XK} {aWAYS aWAYS_TURNED aWAYS_MIRRORED : Addr} {sp_step_done : Sp} (T : Txt K mg w aWAYS aWAYS_TURNED aWAYS_MIRRORED) (hr : Room 5 (A.deeper (envOfC "moves_from" (defScope s_moves_from) s.heap.objs.size f cdv))) (G_step_done : DefS P w K mg base CX0 5 "step_done" p_step_done sp_step_done) :
    PSs (cxOf CX0 P w K mg base n_moves_from "moves_from" (defScope s_moves_from) f cdv A outer s H E).nox (defBody s_moves_from) (rd_moves_from K aWAYS sp_step_done) := by
  have nd : n_moves_from.Nodup := sc_moves_from.nd
  exact (pss_cons (ps_set (i := 2) nd rfl (Or.inl rfl) (pe_lst pa_nil)) (pss_cons (ps_for PassesOwn.never rfl (pi_range1 (by rfl) T.b_range (pa_cons (pe_callB call_len (by rfl) T.b_len PySem.boot_len (pa_cons (pe_ix ix_seq (pv 1) pe_int (fun _ _ => rfl)) pa_nil)) pa_nil)) (pg_name (i := 3) nd rfl (Or.inl rfl)) (pss_one (ps_for PassesOwn.never rfl (pi_tup (pe_glob (by rfl) T.c_WAYS rfl)) (pg_name (i := 4) nd rfl (Or.inl rfl)) (pss_cons (ps_set (i := 5) nd rfl (Or.inl rfl) (pe_dcall G_step_done (hr.mono (by first | decide | omega)) (pa_cons (pv 0) (pa_cons (pv 1) (pa_cons (pe_tup (pa_cons (pv 3) (pa_cons (pv 4) pa_nil))) pa_nil))))) (pss_one (ps_if (pt_cmpR op_notN (pv 5) pe_non (nomark _)) (pss_one (ps_expr (pe_bm PySem.F.plainAttrs_list PySem.F.slot_list_append PySem.F.type_list_append mt_append (pv 2) (pa_cons (pe_tup (pa_cons (pe_tup (pa_cons (pv 3) (pa_cons (pv 4) pa_nil))) (pa_cons (pe_ix ix_seq (pv 5) pe_int (fun _ _ => rfl)) (pa_cons (pe_ix ix_seq (pv 5) pe_int (fun _ _ => rfl)) pa_nil)))) pa_nil)))) pss_nil)))))) (pss_one (ps_ret (pv 2)))))
abbrev n_first_standing : List Str := ["hall", "cells", "door"]
abbrev p_first_standing : List Str := ["hall", "cells"]
theorem sc_first_standing : FnScope n_first_standing p_first_standing (defScope s_first_standing) := ⟨rfl, rfl, rfl, by decide +kernel, rfl, by decide +kernel, by decide +kernel⟩
theorem bd_first_standing {P : Program} {w : World} {K : PySem.W.Frag} {mg : Str → Option Value} {base : Heap} {f : Addr} {cdv : Value} {A : Around} {outer : List Env} {s : Shared} {H : Hp} {E : XK} {aWAYS aWAYS_TURNED aWAYS_MIRRORED : Addr} (T : Txt K mg w aWAYS aWAYS_TURNED aWAYS_MIRRORED) (hr : Room 0 (A.deeper (envOfC "first_standing" (defScope s_first_standing) s.heap.objs.size f cdv))) :
    PSs (cxOf CX0 P w K mg base n_first_standing "first_standing" (defScope s_first_standing) f cdv A outer s H E).nox (defBody s_first_standing) (rd_first_standing K) := by
  have nd : n_first_standing.Nodup := sc_first_standing.nd
  exact (pss_one (ps_ret (pe_tup (pa_cons (pv 1) (pa_cons (pe_join pe_str (pe_lc (own := [("door", 2)]) (g := (gName 2)) (tt := tYes) (te := (tOp (rIx K) (tVar 2) (tC (.int 2)))) rfl nd (pi_tup (pe_ix ix_seq (pv 0) pe_int (fun _ _ => rfl))) (blkOk_by (own := [("door", 2)]) (N := ["hall", "cells", "door"]) (sc := defScope s_first_standing) (by decide +kernel)) (fun _ _ _ _ _ => (pg_name (i := 2) nd rfl (Or.inl rfl))) (fun _ _ _ _ _ => pts_nil) (fun _ _ _ _ _ => (pe_ix ix_seq (pv 2) pe_int (fun _ _ => rfl))))) pa_nil)))))
abbrev n_check_edges : List Str := ["hall", "part", "edges", "most", "taken", "number", "edge"]
abbrev p_check_edges : List Str := ["hall", "part", "edges", "most", "taken"]
theorem sc_check_edges : FnScope n_check_edges p_check_edges (defScope s_check_edges) := ⟨rfl, rfl, rfl, by decide +kernel, rfl, by decide +kernel, by decide +kernel⟩
theorem bx_check_edges {P : Program} {w : World} {K : PySem.W.Frag} {mg : Str → Option Value} {base : Heap} {f : Addr} {cdv : Value} {A : Around} {outer : List Env} {s : Shared} {H : Hp} {E : XK} {aWAYS aWAYS_TURNED aWAYS_MIRRORED : Addr} {sp_is_edge : Sp} (T : Txt K mg w aWAYS aWAYS_TURNED aWAYS_MIRRORED) {CH : Addr} (XH : ExS P w K mg base "BadHall" CH ["self", "part", "number"] (sp_initH CH)) (hr : Room 3 (A.deeper (envOfC "check_edges" (defScope s_check_edges) s.heap.objs.size f cdv))) (G_is_edge : DefS P w K mg base CX0 3 "is_edge" p_is_edge sp_is_edge) :
    PSs (cxOf (L2.CX P w) P w K mg base n_check_edges "check_edges" (defScope s_check_edges) f cdv A outer s H E) (defBody s_check_edges) (rx_check_edges K CH E sp_is_edge) := by
  have tk : Takes (cxOf (L2.CX P w) P w K mg base n_check_edges "check_edges" (defScope s_check_edges) f cdv A outer s H E) (fun cls d _ H => E cls d H) := takes_of rfl rfl rfl rfl
  have nd : n_check_edges.Nodup := sc_check_edges.nd
  exact (pss_one (ps_for (passes_of rfl) rfl (pi_enumX (by rfl) T.b_enumerate (pa_cons (pv 2) pa_nil)) (pg_tup rfl (pgs_cons (pg_name (i := 5) nd rfl (Or.inl rfl)) (pgs_cons (pg_name (i := 6) nd rfl (Or.inl rfl)) pgs_nil))) (pss_cons (ps_if (PW.pt (pw_or (pt_cmpR (op_eqD hr.units) (pv 5) (pv 3) (nomark _)) (pw_or1 (pt_not (pt_val (pe_dcall G_is_edge (hr.mono (by first | decide | omega)) (pa_cons (pv 0) (pa_cons (pv 6) pa_nil)))))))) (pss_one (ps_raiseX XH tk hr (pa_cons (pv 1) (pa_cons (pv 5) pa_nil)))) pss_nil) (pss_one (ps_if (PW.pt (pw_or (pt_cmpR (op_inX (hu65 hr)) (pv 6) (pv 4) (by rfl)) (pw_or1 (pt_cmpR (op_inX (hu65 hr)) (pv 6) (pe_slice sl_X (pv 2) po_none (po_some (pv 5))) (by rfl))))) (pss_one (ps_raiseX XH tk hr (pa_cons (pv 1) (pa_cons (pv 5) pa_nil)))) pss_nil)))))
abbrev n_check_hall : List Str := ["hall", "rows", "columns", "walls", "doors", "door"]
abbrev p_check_hall : List Str := ["hall"]
theorem sc_check_hall : FnScope n_check_hall p_check_hall (defScope s_check_hall) := ⟨rfl, rfl, rfl, by decide +kernel, rfl, by decide +kernel, by decide +kernel⟩
theorem bx_check_hall {P : Program} {w : World} {K : PySem.W.Frag} {mg : Str → Option Value} {base : Heap} {f : Addr} {cdv : Value} {A : Around} {outer : List Env} {s : Shared} {H : Hp} {E : XK} {aWAYS aWAYS_TURNED aWAYS_MIRRORED : Addr} {sp_door_edge : Sp} {sp_is_side : Sp} {sx_check_edges : Sp} (T : Txt K mg w aWAYS aWAYS_TURNED aWAYS_MIRRORED) {CH : Addr} (XH : ExS P w K mg base "BadHall" CH ["self", "part", "number"] (sp_initH CH)) (hr : Room 4 (A.deeper (envOfC "check_hall" (defScope s_check_hall) s.heap.objs.size f cdv))) (G_door_edge : DefS P w K mg base CX0 2 "door_edge" p_door_edge sp_door_edge) (G_is_side : DefS P w K mg base CX0 2 "is_side" p_is_side sp_is_side) (X_check_edges : DefS P w K mg base (L2.CX P w) 4 "check_edges" p_check_edges sx_check_edges) :
    PSs (cxOf (L2.CX P w) P w K mg base n_check_hall "check_hall" (defScope s_check_hall) f cdv A outer s H E) (defBody s_check_hall) (rx_check_hall K CH E sp_door_edge sp_is_side sx_check_edges) := by
  have tk : Takes (cxOf (L2.CX P w) P w K mg base n_check_hall "check_hall" (defScope s_check_hall) f cdv A outer s H E) (fun cls d _ H => E cls d H) := takes_of rfl rfl rfl rfl
  have nd : n_check_hall.Nodup := sc_check_hall.nd
  exact (pss_cons (ps_if (PW.pt (pw_or (pt_not (pt_val (pe_callB call_isi (by rfl) T.b_isinstance (by decide +kernel) (pa_cons (pv 0) (pa_cons (pe_bltn (v := .ty "tuple") (by rfl) T.b_tuple (by decide +kernel) rfl) pa_nil))))) (pw_or1 (pt_cmpR (op_neD hr.units) (pe_callB call_len (by rfl) T.b_len PySem.boot_len (pa_cons (pv 0) pa_nil)) pe_int (nomark _))))) (pss_one (ps_raiseX XH tk hr (pa_cons pe_int (pa_cons pe_int pa_nil)))) pss_nil) (pss_cons (ps_asg (pv 0) (pg_tup rfl (pgs_cons (pg_name (i := 1) nd rfl (Or.inl rfl)) (pgs_cons (pg_name (i := 2) nd rfl (Or.inl rfl)) (pgs_cons (pg_name (i := 3) nd rfl (Or.inl rfl)) (pgs_cons (pg_name (i := 4) nd rfl (Or.inl rfl)) pgs_nil)))))) (pss_cons (ps_if (pt_not (pt_val (pe_dcall G_is_side (hr.mono (by first | decide | omega)) (pa_cons (pv 1) pa_nil)))) (pss_one (ps_raiseX XH tk hr (pa_cons pe_int (pa_cons pe_int pa_nil)))) pss_nil) (pss_cons (ps_if (pt_not (pt_val (pe_dcall G_is_side (hr.mono (by first | decide | omega)) (pa_cons (pv 2) pa_nil)))) (pss_one (ps_raiseX XH tk hr (pa_cons pe_int (pa_cons pe_int pa_nil)))) pss_nil) (pss_cons (ps_if (pt_not (pt_val (pe_callB call_isi (by rfl) T.b_isinstance (by decide +kernel) (pa_cons (pv 3) (pa_cons (pe_bltn (v := .ty "tuple") (by rfl) T.b_tuple (by decide +kernel) rfl) pa_nil))))) (pss_one (ps_raiseX XH tk hr (pa_cons pe_int (pa_cons pe_int pa_nil)))) pss_nil) (pss_cons (ps_expr (pe_dcallX X_check_edges (hr.mono (by first | decide | omega)) (passes_call tk (fun _ _ _ _ h => h)) (pa_cons (pv 0) (pa_cons pe_int (pa_cons (pv 3) (pa_cons (pe_globI (by rfl) T.c_MOST_WALLS) (pa_cons (pe_tup pa_nil) pa_nil))))))) (pss_cons (ps_if (pt_not (pt_val (pe_callB call_isi (by rfl) T.b_isinstance (by decide +kernel) (pa_cons (pv 4) (pa_cons (pe_bltn (v := .ty "tuple") (by rfl) T.b_tuple (by decide +kernel) rfl) pa_nil))))) (pss_one (ps_raiseX XH tk hr (pa_cons pe_int (pa_cons pe_int pa_nil)))) pss_nil) (pss_one (ps_expr (pe_dcallX X_check_edges (hr.mono (by first | decide | omega)) (passes_call tk (fun _ _ _ _ h => h)) (pa_cons (pv 0) (pa_cons pe_int (pa_cons (pe_lc (own := [("door", 5)]) (g := (gName 5)) (tt := tYes) (te := (tCallD sp_door_edge (tCons (tVar 5) tNil))) rfl nd (pi_tup (pv 4)) (blkOk_by (own := [("door", 5)]) (N := ["hall", "rows", "columns", "walls", "doors", "door"]) (sc := defScope s_check_hall) (by decide +kernel)) (fun _ _ _ _ _ => (pg_name (i := 5) nd rfl (Or.inl rfl))) (fun _ _ _ _ _ => pts_nil) (fun _ _ _ _ _ => (pe_dcall G_door_edge (hr.mono (by first | decide | omega)) (pa_cons (pv 5) pa_nil)))) (pa_cons (pe_globI (by rfl) T.c_MOST_DOORS) (pa_cons (pv 3) pa_nil)))))))))))))))
abbrev n_check_cells : List Str := ["hall", "cells", "number", "cell"]
abbrev p_check_cells : List Str := ["hall", "cells"]
theorem sc_check_cells : FnScope n_check_cells p_check_cells (defScope s_check_cells) := ⟨rfl, rfl, rfl, by decide +kernel, rfl, by decide +kernel, by decide +kernel⟩
theorem bx_check_cells {P : Program} {w : World} {K : PySem.W.Frag} {mg : Str → Option Value} {base : Heap} {f : Addr} {cdv : Value} {A : Around} {outer : List Env} {s : Shared} {H : Hp} {E : XK} {aWAYS aWAYS_TURNED aWAYS_MIRRORED : Addr} {sp_is_cell : Sp} (T : Txt K mg w aWAYS aWAYS_TURNED aWAYS_MIRRORED) {CC : Addr} (XC : ExS P w K mg base "BadCells" CC ["self", "number"] (sp_initC CC)) (hr : Room 2 (A.deeper (envOfC "check_cells" (defScope s_check_cells) s.heap.objs.size f cdv))) (G_is_cell : DefS P w K mg base CX0 2 "is_cell" p_is_cell sp_is_cell) :
    PSs (cxOf (L2.CX P w) P w K mg base n_check_cells "check_cells" (defScope s_check_cells) f cdv A outer s H E) (defBody s_check_cells) (rx_check_cells K CC E sp_is_cell) := by
  have tk : Takes (cxOf (L2.CX P w) P w K mg base n_check_cells "check_cells" (defScope s_check_cells) f cdv A outer s H E) (fun cls d _ H => E cls d H) := takes_of rfl rfl rfl rfl
  have nd : n_check_cells.Nodup := sc_check_cells.nd
  exact (pss_cons (ps_if (PW.pt (pw_or (pt_not (pt_val (pe_callB call_isi (by rfl) T.b_isinstance (by decide +kernel) (pa_cons (pv 1) (pa_cons (pe_bltn (v := .ty "tuple") (by rfl) T.b_tuple (by decide +kernel) rfl) pa_nil))))) (pw_or1 (pt_cmpR (op_eqD hr.units) (pe_callB call_len (by rfl) T.b_len PySem.boot_len (pa_cons (pv 1) pa_nil)) pe_int (nomark _))))) (pss_one (ps_raiseX XC tk hr (pa_cons pe_int pa_nil))) pss_nil) (pss_one (ps_for (passes_of rfl) rfl (pi_enumX (by rfl) T.b_enumerate (pa_cons (pv 1) pa_nil)) (pg_tup rfl (pgs_cons (pg_name (i := 2) nd rfl (Or.inl rfl)) (pgs_cons (pg_name (i := 3) nd rfl (Or.inl rfl)) pgs_nil))) (pss_one (ps_if (PW.pt (pw_or (pt_cmpR (op_eqD hr.units) (pv 2) (pe_globI (by rfl) T.c_MOST_WALKERS) (nomark _)) (pw_or (pt_not (pt_val (pe_dcall G_is_cell (hr.mono (by first | decide | omega)) (pa_cons (pv 0) (pa_cons (pv 3) pa_nil))))) (pw_or1 (pt_cmpR (op_inX (hu65 hr)) (pv 3) (pe_slice sl_X (pv 1) po_none (po_some (pv 2))) (by rfl)))))) (pss_one (ps_raiseX XC tk hr (pa_cons (pv 2) pa_nil))) pss_nil)))))
abbrev n_check_start : List Str := ["hall", "cells"]
abbrev p_check_start : List Str := ["hall", "cells"]
theorem sc_check_start : FnScope n_check_start p_check_start (defScope s_check_start) := ⟨rfl, rfl, rfl, by decide +kernel, rfl, by decide +kernel, by decide +kernel⟩
theorem bx_check_start {P : Program} {w : World} {K : PySem.W.Frag} {mg : Str → Option Value} {base : Heap} {f : Addr} {cdv : Value} {A : Around} {outer : List Env} {s : Shared} {H : Hp} {E : XK} {aWAYS aWAYS_TURNED aWAYS_MIRRORED : Addr} {sx_check_cells : Sp} {sx_check_hall : Sp} (T : Txt K mg w aWAYS aWAYS_TURNED aWAYS_MIRRORED) (hr : Room 5 (A.deeper (envOfC "check_start" (defScope s_check_start) s.heap.objs.size f cdv))) (X_check_cells : DefS P w K mg base (L2.CX P w) 3 "check_cells" p_check_cells sx_check_cells) (X_check_hall : DefS P w K mg base (L2.CX P w) 5 "check_hall" p_check_hall sx_check_hall) :
    PSs (cxOf (L2.CX P w) P w K mg base n_check_start "check_start" (defScope s_check_start) f cdv A outer s H E) (defBody s_check_start) (rx_check_start K E sx_check_cells sx_check_hall) := by
  have tk : Takes (cxOf (L2.CX P w) P w K mg base n_check_start "check_start" (defScope s_check_start) f cdv A outer s H E) (fun cls d _ H => E cls d H) := takes_of rfl rfl rfl rfl
  have nd : n_check_start.Nodup := sc_check_start.nd
  exact (pss_cons (ps_expr (pe_dcallX X_check_hall (hr.mono (by first | decide | omega)) (passes_call tk (fun _ _ _ _ h => h)) (pa_cons (pv 0) pa_nil))) (pss_one (ps_expr (pe_dcallX X_check_cells (hr.mono (by first | decide | omega)) (passes_call tk (fun _ _ _ _ h => h)) (pa_cons (pv 0) (pa_cons (pv 1) pa_nil))))))
abbrev n_may : List Str := ["hall", "cells", "move"]
abbrev p_may : List Str := ["hall", "cells"]
theorem sc_may : FnScope n_may p_may (defScope s_may) := ⟨rfl, rfl, rfl, by decide +kernel, rfl, by decide +kernel, by decide +kernel⟩
theorem bx_may {P : Program} {w : World} {K : PySem.W.Frag} {mg : Str → Option Value} {base : Heap} {f : Addr} {cdv : Value} {A : Around} {outer : List Env} {s : Shared} {H : Hp} {E : XK} {aWAYS aWAYS_TURNED aWAYS_MIRRORED : Addr} {sp_first_standing : Sp} {sp_moves_from : Sp} {sx_check_start : Sp} (T : Txt K mg w aWAYS aWAYS_TURNED aWAYS_MIRRORED) (hr : Room 6 (A.deeper (envOfC "may" (defScope s_may) s.heap.objs.size f cdv))) (G_first_standing : DefS P w K mg base CX0 1 "first_standing" p_first_standing sp_first_standing) (G_moves_from : DefS P w K mg base CX0 6 "moves_from" p_moves_from sp_moves_from) (X_check_start : DefS P w K mg base (L2.CX P w) 6 "check_start" p_check_start sx_check_start) :
    PSs (cxOf (L2.CX P w) P w K mg base n_may "may" (defScope s_may) f cdv A outer s H E) (defBody s_may) (rx_may K E sp_first_standing sp_moves_from sx_check_start) := by
  have tk : Takes (cxOf (L2.CX P w) P w K mg base n_may "may" (defScope s_may) f cdv A outer s H E) (fun cls d _ H => E cls d H) := takes_of rfl rfl rfl rfl
  have nd : n_may.Nodup := sc_may.nd
  exact (pss_cons (ps_expr (pe_dcallX X_check_start (hr.mono (by first | decide | omega)) (passes_call tk (fun _ _ _ _ h => h)) (pa_cons (pv 0) (pa_cons (pv 1) pa_nil)))) (pss_one (ps_ret (pe_lc (own := [("move", 2)]) (g := (gName 2)) (tt := tYes) (te := (tOp (rIx K) (tVar 2) (tC (.int 0)))) rfl nd (pi_list (pe_dcall G_moves_from (hr.mono (by first | decide | omega)) (pa_cons (pv 0) (pa_cons (pe_dcall G_first_standing (hr.mono (by first | decide | omega)) (pa_cons (pv 0) (pa_cons (pv 1) pa_nil))) pa_nil)))) (blkOk_by (own := [("move", 2)]) (N := ["hall", "cells", "move"]) (sc := defScope s_may) (by decide +kernel)) (fun _ _ _ _ _ => (pg_name (i := 2) nd rfl (Or.inl rfl))) (fun _ _ _ _ _ => pts_nil) (fun _ _ _ _ _ => (pe_ix ix_seq (pv 2) pe_int (fun _ _ => rfl)))))))
abbrev n_best_way : List Str := ["hall", "cells", "goal", "swing", "moves", "_", "costs", "first"]
abbrev p_best_way : List Str := ["hall", "cells", "goal", "swing"]
theorem sc_best_way : FnScope n_best_way p_best_way (defScope s_best_way) := ⟨rfl, rfl, rfl, by decide +kernel, rfl, by decide +kernel, by decide +kernel⟩
theorem bf_best_way {P : Program} {w : World} {K : PySem.W.Frag} {mg : Str → Option Value} {base : Heap} {f : Addr} {cdv : Value} {A : Around} {outer : List Env} {s : Shared} {H : Hp} {E : XK} {sx_check_start : Sp} (hr : Room 6 (A.deeper (envOfC "best_way" (defScope s_best_way) s.heap.objs.size f cdv))) (X_check_start : DefS P w K mg base (L2.CX P w) 6 "check_start" p_check_start sx_check_start) :
    PSs (cxOf (L2.CX P w) P w K mg base n_best_way "best_way" (defScope s_best_way) f cdv A outer s H E) (defBody s_best_way) (tSeq (tDrop (tCall sx_check_start [] E (tCons (tVar 0) (tCons (tVar 1) tNil)))) tNever) := by
  have tk : Takes (cxOf (L2.CX P w) P w K mg base n_best_way "best_way" (defScope s_best_way) f cdv A outer s H E) (fun cls d _ H => E cls d H) := takes_of rfl rfl rfl rfl
  have nd : n_best_way.Nodup := sc_best_way.nd
  exact pss_first (ps_expr (pe_dcallX X_check_start (hr.mono (by first | decide | omega)) (passes_call tk (fun _ _ _ _ h => h)) (pa_cons (pv 0) (pa_cons (pv 1) pa_nil))))
abbrev n_walk : List Str := ["hall", "cells", "steps", "standing", "told", "number", "step", "found", "door"]
abbrev p_walk : List Str := ["hall", "cells", "steps"]
theorem sc_walk : FnScope n_walk p_walk (defScope s_walk) := ⟨rfl, rfl, rfl, by decide +kernel, rfl, by decide +kernel, by decide +kernel⟩
theorem bf_walk {P : Program} {w : World} {K : PySem.W.Frag} {mg : Str → Option Value} {base : Heap} {f : Addr} {cdv : Value} {A : Around} {outer : List Env} {s : Shared} {H : Hp} {E : XK} {sx_check_start : Sp} (hr : Room 6 (A.deeper (envOfC "walk" (defScope s_walk) s.heap.objs.size f cdv))) (X_check_start : DefS P w K mg base (L2.CX P w) 6 "check_start" p_check_start sx_check_start) :
    PSs (cxOf (L2.CX P w) P w K mg base n_walk "walk" (defScope s_walk) f cdv A outer s H E) (defBody s_walk) (tSeq (tDrop (tCall sx_check_start [] E (tCons (tVar 0) (tCons (tVar 1) tNil)))) tNever) := by
  have tk : Takes (cxOf (L2.CX P w) P w K mg base n_walk "walk" (defScope s_walk) f cdv A outer s H E) (fun cls d _ H => E cls d H) := takes_of rfl rfl rfl rfl
  have nd : n_walk.Nodup := sc_walk.nd
  exact pss_first (ps_expr (pe_dcallX X_check_start (hr.mono (by first | decide | omega)) (passes_call tk (fun _ _ _ _ h => h)) (pa_cons (pv 0) (pa_cons (pv 1) pa_nil))))
theorem bf_may {P : Program} {w : World} {K : PySem.W.Frag} {mg : Str → Option Value} {base : Heap} {f : Addr} {cdv : Value} {A : Around} {outer : List Env} {s : Shared} {H : Hp} {E : XK} {sx_check_start : Sp} (hr : Room 6 (A.deeper (envOfC "may" (defScope s_may) s.heap.objs.size f cdv))) (X_check_start : DefS P w K mg base (L2.CX P w) 6 "check_start" p_check_start sx_check_start) :
    PSs (cxOf (L2.CX P w) P w K mg base n_may "may" (defScope s_may) f cdv A outer s H E) (defBody s_may) (tSeq (tDrop (tCall sx_check_start [] E (tCons (tVar 0) (tCons (tVar 1) tNil)))) tNever) := by
  have tk : Takes (cxOf (L2.CX P w) P w K mg base n_may "may" (defScope s_may) f cdv A outer s H E) (fun cls d _ H => E cls d H) := takes_of rfl rfl rfl rfl
  have nd : n_may.Nodup := sc_may.nd
  exact pss_first (ps_expr (pe_dcallX X_check_start (hr.mono (by first | decide | omega)) (passes_call tk (fun _ _ _ _ h => h)) (pa_cons (pv 0) (pa_cons (pv 1) pa_nil))))
abbrev n_paper : List Str := ["hall", "cells", "goal", "moves", "_"]
abbrev p_paper : List Str := ["hall", "cells", "goal"]
theorem sc_paper : FnScope n_paper p_paper (defScope s_paper) := ⟨rfl, rfl, rfl, by decide +kernel, rfl, by decide +kernel, by decide +kernel⟩
theorem bf_paper {P : Program} {w : World} {K : PySem.W.Frag} {mg : Str → Option Value} {base : Heap} {f : Addr} {cdv : Value} {A : Around} {outer : List Env} {s : Shared} {H : Hp} {E : XK} {sx_check_start : Sp} (hr : Room 6 (A.deeper (envOfC "paper" (defScope s_paper) s.heap.objs.size f cdv))) (X_check_start : DefS P w K mg base (L2.CX P w) 6 "check_start" p_check_start sx_check_start) :
    PSs (cxOf (L2.CX P w) P w K mg base n_paper "paper" (defScope s_paper) f cdv A outer s H E) (defBody s_paper) (tSeq (tDrop (tCall sx_check_start [] E (tCons (tVar 0) (tCons (tVar 1) tNil)))) tNever) := by
  have tk : Takes (cxOf (L2.CX P w) P w K mg base n_paper "paper" (defScope s_paper) f cdv A outer s H E) (fun cls d _ H => E cls d H) := takes_of rfl rfl rfl rfl
  have nd : n_paper.Nodup := sc_paper.nd
  exact pss_first (ps_expr (pe_dcallX X_check_start (hr.mono (by first | decide | omega)) (passes_call tk (fun _ _ _ _ h => h)) (pa_cons (pv 0) (pa_cons (pv 1) pa_nil))))
abbrev n_shows : List Str := ["hall", "cells", "goal", "told", "standing", "listed"]
abbrev p_shows : List Str := ["hall", "cells", "goal", "told"]
theorem sc_shows : FnScope n_shows p_shows (defScope s_shows) := ⟨rfl, rfl, rfl, by decide +kernel, rfl, by decide +kernel, by decide +kernel⟩
theorem bf_shows {P : Program} {w : World} {K : PySem.W.Frag} {mg : Str → Option Value} {base : Heap} {f : Addr} {cdv : Value} {A : Around} {outer : List Env} {s : Shared} {H : Hp} {E : XK} {sx_check_start : Sp} (hr : Room 6 (A.deeper (envOfC "shows" (defScope s_shows) s.heap.objs.size f cdv))) (X_check_start : DefS P w K mg base (L2.CX P w) 6 "check_start" p_check_start sx_check_start) :
    PSs (cxOf (L2.CX P w) P w K mg base n_shows "shows" (defScope s_shows) f cdv A outer s H E) (defBody s_shows) (tSeq (tDrop (tCall sx_check_start [] E (tCons (tVar 0) (tCons (tVar 1) tNil)))) tNever) := by
  have tk : Takes (cxOf (L2.CX P w) P w K mg base n_shows "shows" (defScope s_shows) f cdv A outer s H E) (fun cls d _ H => E cls d H) := takes_of rfl rfl rfl rfl
  have nd : n_shows.Nodup := sc_shows.nd
  exact pss_first (ps_expr (pe_dcallX X_check_start (hr.mono (by first | decide | omega)) (passes_call tk (fun _ _ _ _ h => h)) (pa_cons (pv 0) (pa_cons (pv 1) pa_nil))))
abbrev n_lifted : List Str := ["hall", "cells", "goal", "most", "many", "numbers"]
abbrev p_lifted : List Str := ["hall", "cells", "goal", "most"]
theorem sc_lifted : FnScope n_lifted p_lifted (defScope s_lifted) := ⟨rfl, rfl, rfl, by decide +kernel, rfl, by decide +kernel, by decide +kernel⟩
theorem bf_lifted {P : Program} {w : World} {K : PySem.W.Frag} {mg : Str → Option Value} {base : Heap} {f : Addr} {cdv : Value} {A : Around} {outer : List Env} {s : Shared} {H : Hp} {E : XK} {sx_check_start : Sp} (hr : Room 6 (A.deeper (envOfC "lifted" (defScope s_lifted) s.heap.objs.size f cdv))) (X_check_start : DefS P w K mg base (L2.CX P w) 6 "check_start" p_check_start sx_check_start) :
    PSs (cxOf (L2.CX P w) P w K mg base n_lifted "lifted" (defScope s_lifted) f cdv A outer s H E) (defBody s_lifted) (tSeq (tDrop (tCall sx_check_start [] E (tCons (tVar 0) (tCons (tVar 1) tNil)))) tNever) := by
  have tk : Takes (cxOf (L2.CX P w) P w K mg base n_lifted "lifted" (defScope s_lifted) f cdv A outer s H E) (fun cls d _ H => E cls d H) := takes_of rfl rfl rfl rfl
  have nd : n_lifted.Nodup := sc_lifted.nd
  exact pss_first (ps_expr (pe_dcallX X_check_start (hr.mono (by first | decide | omega)) (passes_call tk (fun _ _ _ _ h => h)) (pa_cons (pv 0) (pa_cons (pv 1) pa_nil))))
abbrev n_turned : List Str := ["hall", "cells", "rows", "columns", "walls", "doors", "edges", "hung", "places", "edge", "row", "column", "way"]
abbrev p_turned : List Str := ["hall", "cells"]
theorem sc_turned : FnScope n_turned p_turned (defScope s_turned) := ⟨rfl, rfl, rfl, by decide +kernel, rfl, by decide +kernel, by decide +kernel⟩
theorem bf_turned {P : Program} {w : World} {K : PySem.W.Frag} {mg : Str → Option Value} {base : Heap} {f : Addr} {cdv : Value} {A : Around} {outer : List Env} {s : Shared} {H : Hp} {E : XK} {sx_check_start : Sp} (hr : Room 6 (A.deeper (envOfC "turned" (defScope s_turned) s.heap.objs.size f cdv))) (X_check_start : DefS P w K mg base (L2.CX P w) 6 "check_start" p_check_start sx_check_start) :
    PSs (cxOf (L2.CX P w) P w K mg base n_turned "turned" (defScope s_turned) f cdv A outer s H E) (defBody s_turned) (tSeq (tDrop (tCall sx_check_start [] E (tCons (tVar 0) (tCons (tVar 1) tNil)))) tNever) := by
  have tk : Takes (cxOf (L2.CX P w) P w K mg base n_turned "turned" (defScope s_turned) f cdv A outer s H E) (fun cls d _ H => E cls d H) := takes_of rfl rfl rfl rfl
  have nd : n_turned.Nodup := sc_turned.nd
  exact pss_first (ps_expr (pe_dcallX X_check_start (hr.mono (by first | decide | omega)) (passes_call tk (fun _ _ _ _ h => h)) (pa_cons (pv 0) (pa_cons (pv 1) pa_nil))))
abbrev n_mirrored : List Str := ["hall", "cells", "rows", "columns", "walls", "doors", "edges", "hung", "places", "edge", "row", "column", "way"]
abbrev p_mirrored : List Str := ["hall", "cells"]
theorem sc_mirrored : FnScope n_mirrored p_mirrored (defScope s_mirrored) := ⟨rfl, rfl, rfl, by decide +kernel, rfl, by decide +kernel, by decide +kernel⟩
theorem bf_mirrored {P : Program} {w : World} {K : PySem.W.Frag} {mg : Str → Option Value} {base : Heap} {f : Addr} {cdv : Value} {A : Around} {outer : List Env} {s : Shared} {H : Hp} {E : XK} {sx_check_start : Sp} (hr : Room 6 (A.deeper (envOfC "mirrored" (defScope s_mirrored) s.heap.objs.size f cdv))) (X_check_start : DefS P w K mg base (L2.CX P w) 6 "check_start" p_check_start sx_check_start) :
    PSs (cxOf (L2.CX P w) P w K mg base n_mirrored "mirrored" (defScope s_mirrored) f cdv A outer s H E) (defBody s_mirrored) (tSeq (tDrop (tCall sx_check_start [] E (tCons (tVar 0) (tCons (tVar 1) tNil)))) tNever) := by
  have tk : Takes (cxOf (L2.CX P w) P w K mg base n_mirrored "mirrored" (defScope s_mirrored) f cdv A outer s H E) (fun cls d _ H => E cls d H) := takes_of rfl rfl rfl rfl
  have nd : n_mirrored.Nodup := sc_mirrored.nd
  exact pss_first (ps_expr (pe_dcallX X_check_start (hr.mono (by first | decide | omega)) (passes_call tk (fun _ _ _ _ h => h)) (pa_cons (pv 0) (pa_cons (pv 1) pa_nil))))
abbrev n_shortest : List Str := ["hall", "cells", "goal", "found"]
abbrev p_shortest : List Str := ["hall", "cells", "goal"]
theorem sc_shortest : FnScope n_shortest p_shortest (defScope s_shortest) := ⟨rfl, rfl, rfl, by decide +kernel, rfl, by decide +kernel, by decide +kernel⟩
theorem bf_shortest {P : Program} {w : World} {K : PySem.W.Frag} {mg : Str → Option Value} {base : Heap} {f : Addr} {cdv : Value} {A : Around} {outer : List Env} {s : Shared} {H : Hp} {E : XK} {sx_best_way : Sp} (hr : Room 7 (A.deeper (envOfC "shortest" (defScope s_shortest) s.heap.objs.size f cdv))) (X_best_way : DefS P w K mg base (L2.CX P w) 7 "best_way" p_best_way sx_best_way) :
    PSs (cxOf (L2.CX P w) P w K mg base n_shortest "shortest" (defScope s_shortest) f cdv A outer s H E) (defBody s_shortest) (tSeq (tAsg (tCall sx_best_way [] E (tCons (tVar 0) (tCons (tVar 1) (tCons (tVar 2) (tCons (tC (.int 0)) tNil))))) (gName 3)) tNever) := by
  have tk : Takes (cxOf (L2.CX P w) P w K mg base n_shortest "shortest" (defScope s_shortest) f cdv A outer s H E) (fun cls d _ H => E cls d H) := takes_of rfl rfl rfl rfl
  have nd : n_shortest.Nodup := sc_shortest.nd
  exact pss_first (ps_set (i := 3) nd rfl (Or.inl rfl) (pe_dcallX X_best_way (hr.mono (by first | decide | omega)) (passes_call tk (fun _ _ _ _ h => h)) (pa_cons (pv 0) (pa_cons (pv 1) (pa_cons (pv 2) (pa_cons pe_int pa_nil))))))
abbrev n_gentlest : List Str := ["hall", "cells", "goal"]
abbrev p_gentlest : List Str := ["hall", "cells", "goal"]
theorem sc_gentlest : FnScope n_gentlest p_gentlest (defScope s_gentlest) := ⟨rfl, rfl, rfl, by decide +kernel, rfl, by decide +kernel, by decide +kernel⟩
theorem bf_gentlest {P : Program} {w : World} {K : PySem.W.Frag} {mg : Str → Option Value} {base : Heap} {f : Addr} {cdv : Value} {A : Around} {outer : List Env} {s : Shared} {H : Hp} {E : XK} {sx_best_way : Sp} (hr : Room 7 (A.deeper (envOfC "gentlest" (defScope s_gentlest) s.heap.objs.size f cdv))) (X_best_way : DefS P w K mg base (L2.CX P w) 7 "best_way" p_best_way sx_best_way) :
    PSs (cxOf (L2.CX P w) P w K mg base n_gentlest "gentlest" (defScope s_gentlest) f cdv A outer s H E) (defBody s_gentlest) (tSeq (tRet (tCall sx_best_way [] E (tCons (tVar 0) (tCons (tVar 1) (tCons (tVar 2) (tCons (tC (.int 1)) tNil)))))) tNever) := by
  have tk : Takes (cxOf (L2.CX P w) P w K mg base n_gentlest "gentlest" (defScope s_gentlest) f cdv A outer s H E) (fun cls d _ H => E cls d H) := takes_of rfl rfl rfl rfl
  have nd : n_gentlest.Nodup := sc_gentlest.nd
  exact pss_first (ps_ret (pe_dcallX X_best_way (hr.mono (by first | decide | omega)) (passes_call tk (fun _ _ _ _ h => h)) (pa_cons (pv 0) (pa_cons (pv 1) (pa_cons (pv 2) (pa_cons pe_int pa_nil))))))
abbrev n_reached : List Str := ["hall", "cells", "moves", "_", "walker"]
abbrev p_reached : List Str := ["hall", "cells"]
theorem sc_reached : FnScope n_reached p_reached (defScope s_reached) := ⟨rfl, rfl, rfl, by decide +kernel, rfl, by decide +kernel, by decide +kernel⟩
theorem bf_reached {P : Program} {w : World} {K : PySem.W.Frag} {mg : Str → Option Value} {base : Heap} {f : Addr} {cdv : Value} {A : Around} {outer : List Env} {s : Shared} {H : Hp} {E : XK} {sx_check_start : Sp} (hr : Room 6 (A.deeper (envOfC "reached" (defScope s_reached) s.heap.objs.size f cdv))) (X_check_start : DefS P w K mg base (L2.CX P w) 6 "check_start" p_check_start sx_check_start) :
    PSs (cxOf (L2.CX P w) P w K mg base n_reached "reached" (defScope s_reached) f cdv A outer s H E) (defBody s_reached) (tSeq (tDrop (tCall sx_check_start [] E (tCons (tVar 0) (tCons (tVar 1) tNil)))) tNever) := by
  have tk : Takes (cxOf (L2.CX P w) P w K mg base n_reached "reached" (defScope s_reached) f cdv A outer s H E) (fun cls d _ H => E cls d H) := takes_of rfl rfl rfl rfl
  have nd : n_reached.Nodup := sc_reached.nd
  exact pss_first (ps_expr (pe_dcallX X_check_start (hr.mono (by first | decide | omega)) (passes_call tk (fun _ _ _ _ h => h)) (pa_cons (pv 0) (pa_cons (pv 1) pa_nil))))
abbrev n_far : List Str := ["hall", "cells", "moves", "farthest"]
abbrev p_far : List Str := ["hall", "cells"]
theorem sc_far : FnScope n_far p_far (defScope s_far) := ⟨rfl, rfl, rfl, by decide +kernel, rfl, by decide +kernel, by decide +kernel⟩
theorem bf_far {P : Program} {w : World} {K : PySem.W.Frag} {mg : Str → Option Value} {base : Heap} {f : Addr} {cdv : Value} {A : Around} {outer : List Env} {s : Shared} {H : Hp} {E : XK} {sx_check_start : Sp} (hr : Room 6 (A.deeper (envOfC "far" (defScope s_far) s.heap.objs.size f cdv))) (X_check_start : DefS P w K mg base (L2.CX P w) 6 "check_start" p_check_start sx_check_start) :
    PSs (cxOf (L2.CX P w) P w K mg base n_far "far" (defScope s_far) f cdv A outer s H E) (defBody s_far) (tSeq (tDrop (tCall sx_check_start [] E (tCons (tVar 0) (tCons (tVar 1) tNil)))) tNever) := by
  have tk : Takes (cxOf (L2.CX P w) P w K mg base n_far "far" (defScope s_far) f cdv A outer s H E) (fun cls d _ H => E cls d H) := takes_of rfl rfl rfl rfl
  have nd : n_far.Nodup := sc_far.nd
  exact pss_first (ps_expr (pe_dcallX X_check_start (hr.mono (by first | decide | omega)) (passes_call tk (fun _ _ _ _ h => h)) (pa_cons (pv 0) (pa_cons (pv 1) pa_nil))))
abbrev n_still : List Str := ["hall", "cells", "moves", "_", "swung", "standing", "move", "door"]
abbrev p_still : List Str := ["hall", "cells"]
theorem sc_still : FnScope n_still p_still (defScope s_still) := ⟨rfl, rfl, rfl, by decide +kernel, rfl, by decide +kernel, by decide +kernel⟩
theorem bf_still {P : Program} {w : World} {K : PySem.W.Frag} {mg : Str → Option Value} {base : Heap} {f : Addr} {cdv : Value} {A : Around} {outer : List Env} {s : Shared} {H : Hp} {E : XK} {sx_check_start : Sp} (hr : Room 6 (A.deeper (envOfC "still" (defScope s_still) s.heap.objs.size f cdv))) (X_check_start : DefS P w K mg base (L2.CX P w) 6 "check_start" p_check_start sx_check_start) :
    PSs (cxOf (L2.CX P w) P w K mg base n_still "still" (defScope s_still) f cdv A outer s H E) (defBody s_still) (tSeq (tDrop (tCall sx_check_start [] E (tCons (tVar 0) (tCons (tVar 1) tNil)))) tNever) := by
  have tk : Takes (cxOf (L2.CX P w) P w K mg base n_still "still" (defScope s_still) f cdv A outer s H E) (fun cls d _ H => E cls d H) := takes_of rfl rfl rfl rfl
  have nd : n_still.Nodup := sc_still.nd
  exact pss_first (ps_expr (pe_dcallX X_check_start (hr.mono (by first | decide | omega)) (passes_call tk (fun _ _ _ _ h => h)) (pa_cons (pv 0) (pa_cons (pv 1) pa_nil))))
abbrev n_oneway : List Str := ["hall", "cells", "moves", "_", "first", "costs", "move"]
abbrev p_oneway : List Str := ["hall", "cells"]
theorem sc_oneway : FnScope n_oneway p_oneway (defScope s_oneway) := ⟨rfl, rfl, rfl, by decide +kernel, rfl, by decide +kernel, by decide +kernel⟩
theorem bf_oneway {P : Program} {w : World} {K : PySem.W.Frag} {mg : Str → Option Value} {base : Heap} {f : Addr} {cdv : Value} {A : Around} {outer : List Env} {s : Shared} {H : Hp} {E : XK} {sx_check_start : Sp} (hr : Room 6 (A.deeper (envOfC "oneway" (defScope s_oneway) s.heap.objs.size f cdv))) (X_check_start : DefS P w K mg base (L2.CX P w) 6 "check_start" p_check_start sx_check_start) :
    PSs (cxOf (L2.CX P w) P w K mg base n_oneway "oneway" (defScope s_oneway) f cdv A outer s H E) (defBody s_oneway) (tSeq (tDrop (tCall sx_check_start [] E (tCons (tVar 0) (tCons (tVar 1) tNil)))) tNever) := by
  have tk : Takes (cxOf (L2.CX P w) P w K mg base n_oneway "oneway" (defScope s_oneway) f cdv A outer s H E) (fun cls d _ H => E cls d H) := takes_of rfl rfl rfl rfl
  have nd : n_oneway.Nodup := sc_oneway.nd
  exact pss_first (ps_expr (pe_dcallX X_check_start (hr.mono (by first | decide | omega)) (passes_call tk (fun _ _ _ _ h => h)) (pa_cons (pv 0) (pa_cons (pv 1) pa_nil))))
abbrev n_lost : List Str := ["hall", "cells", "goal", "moves", "_", "costs", "standing"]
abbrev p_lost : List Str := ["hall", "cells", "goal"]
theorem sc_lost : FnScope n_lost p_lost (defScope s_lost) := ⟨rfl, rfl, rfl, by decide +kernel, rfl, by decide +kernel, by decide +kernel⟩
theorem bf_lost {P : Program} {w : World} {K : PySem.W.Frag} {mg : Str → Option Value} {base : Heap} {f : Addr} {cdv : Value} {A : Around} {outer : List Env} {s : Shared} {H : Hp} {E : XK} {sx_check_start : Sp} (hr : Room 6 (A.deeper (envOfC "lost" (defScope s_lost) s.heap.objs.size f cdv))) (X_check_start : DefS P w K mg base (L2.CX P w) 6 "check_start" p_check_start sx_check_start) :
    PSs (cxOf (L2.CX P w) P w K mg base n_lost "lost" (defScope s_lost) f cdv A outer s H E) (defBody s_lost) (tSeq (tDrop (tCall sx_check_start [] E (tCons (tVar 0) (tCons (tVar 1) tNil)))) tNever) := by
  have tk : Takes (cxOf (L2.CX P w) P w K mg base n_lost "lost" (defScope s_lost) f cdv A outer s H E) (fun cls d _ H => E cls d H) := takes_of rfl rfl rfl rfl
  have nd : n_lost.Nodup := sc_lost.nd
  exact pss_first (ps_expr (pe_dcallX X_check_start (hr.mono (by first | decide | omega)) (passes_call tk (fun _ _ _ _ h => h)) (pa_cons (pv 0) (pa_cons (pv 1) pa_nil))))
abbrev n_written : List Str := ["hall", "cells", "rows", "columns", "walls", "doors", "lines", "row", "column", "sign", "way"]
abbrev p_written : List Str := ["hall", "cells"]
theorem sc_written : FnScope n_written p_written (defScope s_written) := ⟨rfl, rfl, rfl, by decide +kernel, rfl, by decide +kernel, by decide +kernel⟩
theorem bf_written {P : Program} {w : World} {K : PySem.W.Frag} {mg : Str → Option Value} {base : Heap} {f : Addr} {cdv : Value} {A : Around} {outer : List Env} {s : Shared} {H : Hp} {E : XK} {sx_check_start : Sp} (hr : Room 6 (A.deeper (envOfC "written" (defScope s_written) s.heap.objs.size f cdv))) (X_check_start : DefS P w K mg base (L2.CX P w) 6 "check_start" p_check_start sx_check_start) :
    PSs (cxOf (L2.CX P w) P w K mg base n_written "written" (defScope s_written) f cdv A outer s H E) (defBody s_written) (tSeq (tDrop (tCall sx_check_start [] E (tCons (tVar 0) (tCons (tVar 1) tNil)))) tNever) := by
  have tk : Takes (cxOf (L2.CX P w) P w K mg base n_written "written" (defScope s_written) f cdv A outer s H E) (fun cls d _ H => E cls d H) := takes_of rfl rfl rfl rfl
  have nd : n_written.Nodup := sc_written.nd
  exact pss_first (ps_expr (pe_dcallX X_check_start (hr.mono (by first | decide | omega)) (passes_call tk (fun _ _ _ _ h => h)) (pa_cons (pv 0) (pa_cons (pv 1) pa_nil))))
abbrev n_L_taken : List Str := ["_law_row", "_law_many", "_law_found", "_law_cell"]
abbrev p_L_taken : List Str := ["_law_row", "_law_many"]
theorem sc_L_taken : FnScope n_L_taken p_L_taken (defScope s_L_taken) := ⟨rfl, rfl, rfl, by decide +kernel, rfl, by decide +kernel, by decide +kernel⟩
theorem bd_L_taken {P : Program} {w : World} {K : PySem.W.Frag} {mg : Str → Option Value} {base : Heap} {f : Addr} {cdv : Value} {A : Around} {outer : List Env} {s : Shared} {H : Hp} {E : XK} {aWAYS aWAYS_TURNED aWAYS_MIRRORED : Addr} (T : Txt K mg w aWAYS aWAYS_TURNED aWAYS_MIRRORED) (hr : Room 0 (A.deeper (envOfC "_law_taken" (defScope s_L_taken) s.heap.objs.size f cdv))) :
    PSs (cxOf CX0 P w K mg base n_L_taken "_law_taken" (defScope s_L_taken) f cdv A outer s H E).nox (defBody s_L_taken) (rd_L_taken K) := by
  have nd : n_L_taken.Nodup := sc_L_taken.nd
  exact (pss_cons (ps_if (pt_cmpR op_gt (pe_ix ix_seq (pv 0) pe_int (fun _ _ => rfl)) pe_int (nomark _)) (pss_cons (ps_set (i := 2) nd rfl (Or.inl rfl) (pe_op op_mod (pe_ix ix_seq (pv 0) pe_int (fun _ _ => rfl)) (pv 1))) (pss_cons (ps_asg (pe_op op_fdiv (pe_ix ix_seq (pv 0) pe_int (fun _ _ => rfl)) (pv 1)) (pg_sub (pv 0) pe_int set_list)) (pss_one (ps_ret (pv 2))))) pss_nil) (pss_cons (ps_asg (pe_op op_addX (pe_ix ix_seq (pv 0) pe_int (fun _ _ => rfl)) pe_int) (pg_sub (pv 0) pe_int set_list)) (pss_cons (ps_if (pt_cmpR op_gt (pe_ix ix_seq (pv 0) pe_int (fun _ _ => rfl)) (pe_callB call_len (by rfl) T.b_len PySem.boot_len (pa_cons (pe_ix ix_seq (pv 0) pe_int (fun _ _ => rfl)) pa_nil)) (nomark _)) (pss_cons (ps_asg (pe_op op_mod (pe_op op_addX (pe_op op_mulX' (pe_ix ix_seq (pv 0) pe_int (fun _ _ => rfl)) pe_int) pe_int) pe_int) (pg_sub (pv 0) pe_int set_list)) (pss_one (ps_ret (pe_op op_mod (pe_op op_fdiv (pe_ix ix_seq (pv 0) pe_int (fun _ _ => rfl)) pe_int) (pv 1))))) pss_nil) (pss_cons (ps_set (i := 3) nd rfl (Or.inl rfl) (pe_ix ix_seq (pe_ix ix_seq (pv 0) pe_int (fun _ _ => rfl)) (pe_op op_sub (pe_ix ix_seq (pv 0) pe_int (fun _ _ => rfl)) pe_int) (fun _ _ => rfl))) (pss_cons (ps_asg (pe_op op_mod (pe_op op_addX (pe_op op_addX (pe_op op_mulX' (pe_ix ix_seq (pv 0) pe_int (fun _ _ => rfl)) pe_int) (pv 3)) pe_int) pe_int) (pg_sub (pv 0) pe_int set_list)) (pss_cons (ps_if (pt_cmpR op_ge (pv 3) (pe_op op_pow pe_int pe_int) (nomark _)) (pss_one (ps_asg (pe_op op_fdiv (pv 3) (pv 1)) (pg_sub (pv 0) pe_int set_list))) pss_nil) (pss_one (ps_ret (pe_op op_mod (pv 3) (pv 1))))))))))
abbrev n_L_pair : List Str := ["_law_corner", "_law_way", "_law_r", "_law_c", "_law_high", "_law_wide"]
abbrev p_L_pair : List Str := ["_law_corner", "_law_way"]
theorem sc_L_pair : FnScope n_L_pair p_L_pair (defScope s_L_pair) := ⟨rfl, rfl, rfl, by decide +kernel, rfl, by decide +kernel, by decide +kernel⟩
theorem bd_L_pair {P : Program} {w : World} {K : PySem.W.Frag} {mg : Str → Option Value} {base : Heap} {f : Addr} {cdv : Value} {A : Around} {outer : List Env} {s : Shared} {H : Hp} {E : XK} {aWAYS aWAYS_TURNED aWAYS_MIRRORED : Addr} (T : Txt K mg w aWAYS aWAYS_TURNED aWAYS_MIRRORED) (hr : Room 0 (A.deeper (envOfC "_law_pair" (defScope s_L_pair) s.heap.objs.size f cdv))) :
    PSs (cxOf CX0 P w K mg base n_L_pair "_law_pair" (defScope s_L_pair) f cdv A outer s H E).nox (defBody s_L_pair) (rd_L_pair K) := by
  have nd : n_L_pair.Nodup := sc_L_pair.nd
  exact (pss_cons (ps_asg (pv 0) (pg_tup rfl (pgs_cons (pg_name (i := 2) nd rfl (Or.inl rfl)) (pgs_cons (pg_name (i := 3) nd rfl (Or.inl rfl)) pgs_nil)))) (pss_cons (ps_if (pt_cmpR (op_inX (hu65 hr)) (pv 1) pe_str (by rfl)) (pss_cons (ps_set (i := 4) nd rfl (Or.inl rfl) (pe_op op_sub (pv 2) (pe_callTy call_int1 (by rfl) T.b_int (by decide +kernel) (pa_cons (pe_cmpR (op_eqD hr.units) (pv 1) pe_str (nomark _)) pa_nil)))) (pss_one (ps_ret (pe_tup (pa_cons (pe_tup (pa_cons (pv 4) (pa_cons (pe_op op_sub (pv 3) pe_int) pa_nil))) (pa_cons (pe_tup (pa_cons (pv 4) (pa_cons (pv 3) pa_nil))) pa_nil)))))) pss_nil) (pss_cons (ps_set (i := 5) nd rfl (Or.inl rfl) (pe_op op_sub (pv 3) (pe_callTy call_int1 (by rfl) T.b_int (by decide +kernel) (pa_cons (pe_cmpR (op_eqD hr.units) (pv 1) pe_str (nomark _)) pa_nil)))) (pss_one (ps_ret (pe_tup (pa_cons (pe_tup (pa_cons (pe_op op_sub (pv 2) pe_int) (pa_cons (pv 5) pa_nil))) (pa_cons (pe_tup (pa_cons (pv 2) (pa_cons (pv 5) pa_nil))) pa_nil))))))))
abbrev n_L_shut : List Str := ["_law_shut_here", "_law_r", "_law_c", "_law_sort"]
abbrev p_L_shut : List Str := ["_law_shut_here"]
theorem sc_L_shut : FnScope n_L_shut p_L_shut (defScope s_L_shut) := ⟨rfl, rfl, rfl, by decide +kernel, rfl, by decide +kernel, by decide +kernel⟩
theorem bd_L_shut {P : Program} {w : World} {K : PySem.W.Frag} {mg : Str → Option Value} {base : Heap} {f : Addr} {cdv : Value} {A : Around} {outer : List Env} {s : Shared} {H : Hp} {E : XK} {aWAYS aWAYS_TURNED aWAYS_MIRRORED : Addr} (T : Txt K mg w aWAYS aWAYS_TURNED aWAYS_MIRRORED) (hr : Room 0 (A.deeper (envOfC "_law_shut" (defScope s_L_shut) s.heap.objs.size f cdv))) :
    PSs (cxOf CX0 P w K mg base n_L_shut "_law_shut" (defScope s_L_shut) f cdv A outer s H E).nox (defBody s_L_shut) (rd_L_shut K) := by
  have nd : n_L_shut.Nodup := sc_L_shut.nd
  exact (pss_cons (ps_asg (pv 0) (pg_tup rfl (pgs_cons (pg_name (i := 1) nd rfl (Or.inl rfl)) (pgs_cons (pg_name (i := 2) nd rfl (Or.inl rfl)) (pgs_cons (pg_name (i := 3) nd rfl (Or.inl rfl)) pgs_nil))))) (pss_one (ps_ret (pe_ifExp (pt_cmpR (op_eqD hr.units) (pv 3) pe_str (nomark _)) (pe_tup (pa_cons (pe_tup (pa_cons (pe_op op_sub (pv 1) pe_int) (pa_cons (pv 2) pa_nil))) (pa_cons (pe_tup (pa_cons (pv 1) (pa_cons (pv 2) pa_nil))) pa_nil))) (pe_tup (pa_cons (pe_tup (pa_cons (pv 1) (pa_cons (pe_op op_sub (pv 2) pe_int) pa_nil))) (pa_cons (pe_tup (pa_cons (pv 1) (pa_cons (pv 2) pa_nil))) pa_nil)))))))
abbrev n_L_within : List Str := ["_law_hall_here", "_law_pair_here", "_law_some", "_law_cell"]
abbrev p_L_within : List Str := ["_law_hall_here", "_law_pair_here"]
theorem sc_L_within : FnScope n_L_within p_L_within (defScope s_L_within) := ⟨rfl, rfl, rfl, by decide +kernel, rfl, by decide +kernel, by decide +kernel⟩
theorem bd_L_within {P : Program} {w : World} {K : PySem.W.Frag} {mg : Str → Option Value} {base : Heap} {f : Addr} {cdv : Value} {A : Around} {outer : List Env} {s : Shared} {H : Hp} {E : XK} {aWAYS aWAYS_TURNED aWAYS_MIRRORED : Addr} (T : Txt K mg w aWAYS aWAYS_TURNED aWAYS_MIRRORED) (hr : Room 0 (A.deeper (envOfC "_law_within" (defScope s_L_within) s.heap.objs.size f cdv))) :
    PSs (cxOf CX0 P w K mg base n_L_within "_law_within" (defScope s_L_within) f cdv A outer s H E).nox (defBody s_L_within) (rd_L_within K) := by
  have nd : n_L_within.Nodup := sc_L_within.nd
  exact (pss_cons (ps_setLc (i := 2) (own := [("_law_cell", 3)]) (g := (gName 3)) (tt := (tAnd (tTest (tChain rLeI rLtI (tC (.int 0)) (tOp (rIx K) (tVar 3) (tC (.int 0))) (tOp (rIx K) (tVar 0) (tC (.int 0))))) (tTest (tChain rLeI rLtI (tC (.int 0)) (tOp (rIx K) (tVar 3) (tC (.int 1))) (tOp (rIx K) (tVar 0) (tC (.int 1))))))) (te := (tVar 3)) rfl nd rfl rfl (sw_true rfl rfl rfl (by decide +kernel)) (pi_tup (pv 1)) (blkOk_by (own := [("_law_cell", 3)]) (N := ["_law_hall_here", "_law_pair_here", "_law_some", "_law_cell"]) (sc := defScope s_L_within) (by decide +kernel)) (fun _ _ _ _ _ => (pg_name (i := 3) nd rfl (Or.inl rfl))) (fun _ _ _ _ _ => (pts_one (PW.pt (pw_and (pt_chain op_le op_lt pe_int (pe_ix ix_seq (pv 3) pe_int (fun _ _ => rfl)) (pe_ix ix_seq (pv 0) pe_int (fun _ _ => rfl))) (pw_and1 (pt_chain op_le op_lt pe_int (pe_ix ix_seq (pv 3) pe_int (fun _ _ => rfl)) (pe_ix ix_seq (pv 0) pe_int (fun _ _ => rfl)))))))) (fun _ _ _ _ _ => (pv 3))) (pss_one (ps_ret (pe_cmpR (op_eqD hr.units) (pe_callB call_len (by rfl) T.b_len PySem.boot_len (pa_cons (pv 2) pa_nil)) pe_int (nomark _)))))
abbrev n_L_hall : List Str := ["_law_row", "_law_size", "_law_doors", "_law_high", "_law_wide", "_law_left", "_law_r", "_law_shuts", "_law_hung", "_law_stand", "_law_k", "_law_door", "_law_pair_here", "_law_shut_here", "_law_c"]
abbrev p_L_hall : List Str := ["_law_row", "_law_size", "_law_doors"]
theorem sc_L_hall : FnScope n_L_hall p_L_hall (defScope s_L_hall) := ⟨rfl, rfl, rfl, by decide +kernel, rfl, by decide +kernel, by decide +kernel⟩
theorem bd_L_hall {P : Program} {w : World} {K : PySem.W.Frag} {mg : Str → Option Value} {base : Heap} {f : Addr} {cdv : Value} {A : Around} {outer : List Env} {s : Shared} {H : Hp} {E : XK} {aWAYS aWAYS_TURNED aWAYS_MIRRORED : Addr} {sp_L_pair : Sp} {sp_L_shut : Sp} {sp_L_taken : Sp} {sp_L_within : Sp} (T : Txt K mg w aWAYS aWAYS_TURNED aWAYS_MIRRORED) (hr : Room 1 (A.deeper (envOfC "_law_hall" (defScope s_L_hall) s.heap.objs.size f cdv))) (G_L_pair : DefS P w K mg base CX0 1 "_law_pair" p_L_pair sp_L_pair) (G_L_shut : DefS P w K mg base CX0 1 "_law_shut" p_L_shut sp_L_shut) (G_L_taken : DefS P w K mg base CX0 1 "_law_taken" p_L_taken sp_L_taken) (G_L_within : DefS P w K mg base CX0 1 "_law_within" p_L_within sp_L_within) :
    PSs (cxOf CX0 P w K mg base n_L_hall "_law_hall" (defScope s_L_hall) f cdv A outer s H E).nox (defBody s_L_hall) (rd_L_hall K sp_L_pair sp_L_shut sp_L_taken sp_L_within) := by
  have nd : n_L_hall.Nodup := sc_L_hall.nd
  exact (pss_cons (ps_par (i := 3) (j := 4) rfl nd rfl rfl (by decide) rfl rfl (pa_cons (pe_op op_addX pe_int (pe_dcall G_L_taken (hr.mono (by first | decide | omega)) (pa_cons (pv 0) (pa_cons (pv 1) pa_nil)))) (pa_cons (pe_op op_addX pe_int (pe_dcall G_L_taken (hr.mono (by first | decide | omega)) (pa_cons (pv 0) (pa_cons (pv 1) pa_nil)))) pa_nil)) (by rfl)) (pss_cons (ps_set (i := 5) nd rfl (Or.inl rfl) (pe_lst pa_nil)) (pss_cons (ps_for PassesOwn.never rfl (pi_range1 (by rfl) T.b_range (pa_cons (pv 3) pa_nil)) (pg_name (i := 6) nd rfl (Or.inr rfl)) (pss_one (ps_set (i := 5) nd rfl (Or.inl rfl) (pe_op op_addX (pe_op op_addX (pv 5) (pe_lc (own := [("_law_c", 14)]) (g := (gName 14)) (tt := tYes) (te := (tTup (tCons (tVar 6) (tCons (tVar 14) (tCons (tC (.str "-")) tNil))))) rfl nd (pi_range1 (by rfl) T.b_range (pa_cons (pe_op op_mulX' (pv 4) (pe_callTy call_int1 (by rfl) T.b_int (by decide +kernel) (pa_cons (pe_cmpR op_gt (pv 6) pe_int (nomark _)) pa_nil))) pa_nil)) (blkOk_by (own := [("_law_c", 14)]) (N := ["_law_row", "_law_size", "_law_doors", "_law_high", "_law_wide", "_law_left", "_law_r", "_law_shuts", "_law_hung", "_law_stand", "_law_k", "_law_door", "_law_pair_here", "_law_shut_here", "_law_c"]) (sc := defScope s_L_hall) (by decide +kernel)) (fun _ _ _ _ _ => (pg_name (i := 14) nd rfl (Or.inl rfl))) (fun _ _ _ _ _ => pts_nil) (fun _ _ _ _ _ => (pe_tup (pa_cons (pv 6) (pa_cons (pv 14) (pa_cons pe_str pa_nil))))))) (pe_lc (own := [("_law_c", 14)]) (g := (gName 14)) (tt := tYes) (te := (tTup (tCons (tVar 6) (tCons (tVar 14) (tCons (tC (.str "|")) tNil))))) rfl nd (pi_range2 (by rfl) T.b_range (pa_cons pe_int (pa_cons (pv 4) pa_nil))) (blkOk_by (own := [("_law_c", 14)]) (N := ["_law_row", "_law_size", "_law_doors", "_law_high", "_law_wide", "_law_left", "_law_r", "_law_shuts", "_law_hung", "_law_stand", "_law_k", "_law_door", "_law_pair_here", "_law_shut_here", "_law_c"]) (sc := defScope s_L_hall) (by decide +kernel)) (fun _ _ _ _ _ => (pg_name (i := 14) nd rfl (Or.inl rfl))) (fun _ _ _ _ _ => pts_nil) (fun _ _ _ _ _ => (pe_tup (pa_cons (pv 6) (pa_cons (pv 14) (pa_cons pe_str pa_nil)))))))))) (pss_cons (ps_par3 (i := 7) (j := 8) (l := 9) rfl nd rfl rfl rfl (by decide) (by decide) (by decide) rfl rfl rfl (pa_cons (pe_lst pa_nil) (pa_cons (pe_lst pa_nil) (pa_cons (pe_lst pa_nil) pa_nil))) (by rfl)) (pss_cons (ps_for PassesOwn.never rfl (pi_range1 (by rfl) T.b_range (pa_cons (pe_dcall G_L_taken (hr.mono (by first | decide | omega)) (pa_cons (pv 0) (pa_cons (pe_ix ix_seq (pe_lst (pa_cons pe_int (pa_cons pe_int (pa_cons pe_int pa_nil)))) (pe_dcall G_L_taken (hr.mono (by first | decide | omega)) (pa_cons (pv 0) (pa_cons pe_int pa_nil))) (fun _ _ => rfl)) pa_nil))) pa_nil)) (pg_name (i := 10) nd rfl (Or.inl rfl)) (pss_one (ps_if (pt_cmpR (op_neD hr.units) (pv 5) (pe_lst pa_nil) (nomark _)) (pss_one (ps_expr (pe_bm PySem.F.plainAttrs_list PySem.F.slot_list_append PySem.F.type_list_append mt_append (pv 7) (pa_cons (pe_bm PySem.F.plainAttrs_list PySem.F.slot_list_pop PySem.F.type_list_pop mt_popAt (pv 5) (pa_cons (pe_dcall G_L_taken (hr.mono (by first | decide | omega)) (pa_cons (pv 0) (pa_cons (pe_callB call_len (by rfl) T.b_len PySem.boot_len (pa_cons (pv 5) pa_nil)) pa_nil))) pa_nil)) pa_nil)))) pss_nil))) (pss_cons (ps_setLc (i := 9) (own := [("_law_shut_here", 13)]) (g := (gName 13)) (tt := tYes) (te := (tCallD sp_L_shut (tCons (tVar 13) tNil))) rfl nd rfl rfl (sw_true rfl rfl rfl (by decide +kernel)) (pi_list (pv 7)) (blkOk_by (own := [("_law_shut_here", 13)]) (N := ["_law_row", "_law_size", "_law_doors", "_law_high", "_law_wide", "_law_left", "_law_r", "_law_shuts", "_law_hung", "_law_stand", "_law_k", "_law_door", "_law_pair_here", "_law_shut_here", "_law_c"]) (sc := defScope s_L_hall) (by decide +kernel)) (fun _ _ _ _ _ => (pg_name (i := 13) nd rfl (Or.inl rfl))) (fun _ _ _ _ _ => pts_nil) (fun _ _ _ _ _ => (pe_dcall G_L_shut (hr.mono (by first | decide | omega)) (pa_cons (pv 13) pa_nil)))) (pss_cons (ps_for PassesOwn.never rfl (pi_range1 (by rfl) T.b_range (pa_cons (pe_dcall G_L_taken (hr.mono (by first | decide | omega)) (pa_cons (pv 0) (pa_cons (pe_op op_addX (pv 2) pe_int) pa_nil))) pa_nil)) (pg_name (i := 10) nd rfl (Or.inl rfl)) (pss_cons (ps_set (i := 11) nd rfl (Or.inl rfl) (pe_tup (pa_cons (pe_dcall G_L_taken (hr.mono (by first | decide | omega)) (pa_cons (pv 0) (pa_cons (pe_op op_addX (pv 3) pe_int) pa_nil))) (pa_cons (pe_dcall G_L_taken (hr.mono (by first | decide | omega)) (pa_cons (pv 0) (pa_cons (pe_op op_addX (pv 4) pe_int) pa_nil))) (pa_cons (pe_ix ix_seq pe_str (pe_dcall G_L_taken (hr.mono (by first | decide | omega)) (pa_cons (pv 0) (pa_cons pe_int pa_nil))) (fun _ _ => rfl)) pa_nil))))) (pss_cons (ps_set (i := 12) nd rfl (Or.inl rfl) (pe_dcall G_L_pair (hr.mono (by first | decide | omega)) (pa_cons (pe_slice sl_X (pv 11) po_none (po_some pe_int)) (pa_cons (pe_ix ix_seq (pv 11) pe_int (fun _ _ => rfl)) pa_nil)))) (pss_one (ps_if (PW.pt (pw_and (pt_val (pe_dcall G_L_within (hr.mono (by first | decide | omega)) (pa_cons (pe_tup (pa_cons (pv 3) (pa_cons (pv 4) pa_nil))) (pa_cons (pv 12) pa_nil)))) (pw_and1 (pt_cmpR (op_notInX (hu65 hr)) (pv 12) (pv 9) (by rfl))))) (pss_cons (ps_expr (pe_bm PySem.F.plainAttrs_list PySem.F.slot_list_append PySem.F.type_list_append mt_append (pv 8) (pa_cons (pv 11) pa_nil))) (pss_one (ps_expr (pe_bm PySem.F.plainAttrs_list PySem.F.slot_list_append PySem.F.type_list_append mt_append (pv 9) (pa_cons (pv 12) pa_nil))))) pss_nil))))) (pss_one (ps_ret (pe_tup (pa_cons (pv 3) (pa_cons (pv 4) (pa_cons (pe_callTy call_tuple_of (by rfl) T.b_tuple (by decide +kernel) (pa_cons (pv 7) pa_nil)) (pa_cons (pe_callTy call_tuple_of (by rfl) T.b_tuple (by decide +kernel) (pa_cons (pv 8) pa_nil)) pa_nil))))))))))))))
abbrev n_L_odd : List Str := ["_law_row", "_law_hall_here", "_law_high", "_law_wide", "_law_shuts", "_law_hung", "_law_far_off", "_law_side", "_law_k", "_law_odd_here", "_law_shut_here"]
abbrev p_L_odd : List Str := ["_law_row", "_law_hall_here"]
theorem sc_L_odd : FnScope n_L_odd p_L_odd (defScope s_L_odd) := ⟨rfl, rfl, rfl, by decide +kernel, rfl, by decide +kernel, by decide +kernel⟩
theorem bd_L_odd {P : Program} {w : World} {K : PySem.W.Frag} {mg : Str → Option Value} {base : Heap} {f : Addr} {cdv : Value} {A : Around} {outer : List Env} {s : Shared} {H : Hp} {E : XK} {aWAYS aWAYS_TURNED aWAYS_MIRRORED : Addr} {sp_L_taken : Sp} (T : Txt K mg w aWAYS aWAYS_TURNED aWAYS_MIRRORED) (hr : Room 1 (A.deeper (envOfC "_law_odd" (defScope s_L_odd) s.heap.objs.size f cdv))) (G_L_taken : DefS P w K mg base CX0 1 "_law_taken" p_L_taken sp_L_taken) :
    PSs (cxOf CX0 P w K mg base n_L_odd "_law_odd" (defScope s_L_odd) f cdv A outer s H E).nox (defBody s_L_odd) (rd_L_odd K sp_L_taken) := by
  have nd : n_L_odd.Nodup := sc_L_odd.nd
  exact (pss_cons (ps_asg (pv 1) (pg_tup rfl (pgs_cons (pg_name (i := 2) nd rfl (Or.inl rfl)) (pgs_cons (pg_name (i := 3) nd rfl (Or.inl rfl)) (pgs_cons (pg_name (i := 4) nd rfl (Or.inl rfl)) (pgs_cons (pg_name (i := 5) nd rfl (Or.inl rfl)) pgs_nil)))))) (pss_cons (ps_set (i := 6) nd rfl (Or.inl rfl) (pe_op op_addX pe_int (pe_dcall G_L_taken (hr.mono (by first | decide | omega)) (pa_cons (pv 0) (pa_cons (pe_op op_pow pe_int pe_int) pa_nil))))) (pss_cons (ps_if (pt_cmpR (op_eqD hr.units) (pe_dcall G_L_taken (hr.mono (by first | decide | omega)) (pa_cons (pv 0) (pa_cons pe_int pa_nil))) pe_int (nomark _)) (pss_cons (ps_set (i := 7) nd rfl (Or.inl rfl) (pe_ix ix_seq (pe_lst (pa_cons pe_int (pa_cons pe_int (pa_cons (pv 6) (pa_cons pe_bl (pa_cons pe_non (pa_cons pe_str pa_nil))))))) (pe_dcall G_L_taken (hr.mono (by first | decide | omega)) (pa_cons (pv 0) (pa_cons pe_int pa_nil))) (fun _ _ => rfl))) (pss_one (ps_ret (pe_ix ix_seq (pe_lst (pa_cons (pe_tup (pa_cons (pe_tup (pa_cons (pv 7) (pa_cons (pv 3) (pa_cons pe_int (pa_cons pe_int pa_nil))))) (pa_cons pe_int (pa_cons pe_int pa_nil)))) (pa_cons (pe_tup (pa_cons (pe_tup (pa_cons (pv 2) (pa_cons (pv 7) (pa_cons pe_int (pa_cons pe_int pa_nil))))) (pa_cons pe_int (pa_cons pe_int pa_nil)))) pa_nil))) (pe_dcall G_L_taken (hr.mono (by first | decide | omega)) (pa_cons (pv 0) (pa_cons pe_int pa_nil))) (fun _ _ => rfl))))) pss_nil) (pss_cons (ps_if (pt_cmpR (op_eqD hr.units) (pe_dcall G_L_taken (hr.mono (by first | decide | omega)) (pa_cons (pv 0) (pa_cons pe_int pa_nil))) pe_int (nomark _)) (pss_cons (ps_set (i := 8) nd rfl (Or.inl rfl) (pe_dcall G_L_taken (hr.mono (by first | decide | omega)) (pa_cons (pv 0) (pa_cons (pe_op op_addX (pe_callB call_len (by rfl) T.b_len PySem.boot_len (pa_cons (pv 4) pa_nil)) pe_int) pa_nil)))) (pss_cons (ps_set (i := 9) nd rfl (Or.inl rfl) (pe_lst (pa_cons (pe_tup (pa_cons pe_int (pa_cons pe_int (pa_cons pe_str pa_nil)))) (pa_cons (pe_tup (pa_cons pe_int (pa_cons pe_int (pa_cons pe_str pa_nil)))) (pa_cons (pe_tup (pa_cons (pv 2) (pa_cons pe_int (pa_cons pe_str pa_nil)))) (pa_cons (pe_tup (pa_cons pe_int (pa_cons (pv 3) (pa_cons pe_str pa_nil)))) (pa_cons (pe_tup (pa_cons pe_int (pa_cons pe_int pa_nil))) (pa_cons (pe_tup (pa_cons pe_int (pa_cons pe_int (pa_cons pe_str pa_nil)))) (pa_cons (pe_tup (pa_cons pe_bl (pa_cons pe_int (pa_cons pe_str pa_nil)))) pa_nil))))))))) (pss_cons (ps_set (i := 9) nd rfl (Or.inl rfl) (pe_op op_addX (pe_op op_addX (pv 9) (pe_lst (pa_cons pe_non (pa_cons pe_int (pa_cons (pe_tup (pa_cons (pv 6) (pa_cons pe_int (pa_cons pe_str pa_nil)))) (pa_cons (pe_tup (pa_cons pe_int (pa_cons pe_int (pa_cons pe_int pa_nil)))) (pa_cons (pe_lst (pa_cons pe_int (pa_cons pe_int (pa_cons pe_str pa_nil)))) pa_nil))))))) (pe_lc (own := [("_law_shut_here", 10)]) (g := (gName 10)) (tt := tYes) (te := (tVar 10)) rfl nd (pi_tup (pe_slice sl_X (pv 4) po_none (po_some (pe_callB (call_min2 rfl) (by rfl) T.b_min (by decide +kernel) (pa_cons (pv 8) (pa_cons pe_int pa_nil)))))) (blkOk_by (own := [("_law_shut_here", 10)]) (N := ["_law_row", "_law_hall_here", "_law_high", "_law_wide", "_law_shuts", "_law_hung", "_law_far_off", "_law_side", "_law_k", "_law_odd_here", "_law_shut_here"]) (sc := defScope s_L_odd) (by decide +kernel)) (fun _ _ _ _ _ => (pg_name (i := 10) nd rfl (Or.inl rfl))) (fun _ _ _ _ _ => pts_nil) (fun _ _ _ _ _ => (pv 10))))) (pss_one (ps_ret (pe_tup (pa_cons (pe_tup (pa_cons (pv 2) (pa_cons (pv 3) (pa_cons (pe_op op_addX (pe_op op_addX (pe_slice sl_X (pv 4) po_none (po_some (pv 8))) (pe_tup (pa_cons (pe_ix ix_seq (pv 9) (pe_dcall G_L_taken (hr.mono (by first | decide | omega)) (pa_cons (pv 0) (pa_cons (pe_callB call_len (by rfl) T.b_len PySem.boot_len (pa_cons (pv 9) pa_nil)) pa_nil))) (fun _ _ => rfl)) pa_nil))) (pe_slice sl_X (pv 4) (po_some (pv 8)) po_none)) (pa_cons pe_int pa_nil))))) (pa_cons pe_int (pa_cons (pv 8) pa_nil))))))))) pss_nil) (pss_cons (ps_set (i := 8) nd rfl (Or.inl rfl) (pe_dcall G_L_taken (hr.mono (by first | decide | omega)) (pa_cons (pv 0) (pa_cons (pe_op op_addX (pe_callB call_len (by rfl) T.b_len PySem.boot_len (pa_cons (pv 5) pa_nil)) pe_int) pa_nil)))) (pss_cons (ps_set (i := 9) nd rfl (Or.inl rfl) (pe_lst (pa_cons (pe_tup (pa_cons pe_int (pa_cons pe_int (pa_cons pe_str pa_nil)))) (pa_cons (pe_tup (pa_cons pe_int (pa_cons pe_int (pa_cons pe_str pa_nil)))) (pa_cons (pe_tup (pa_cons pe_int (pa_cons pe_int (pa_cons pe_str pa_nil)))) (pa_cons (pe_tup (pa_cons (pv 2) (pa_cons (pv 3) (pa_cons pe_str pa_nil)))) (pa_cons (pe_tup (pa_cons (pv 2) (pa_cons (pv 3) (pa_cons pe_str pa_nil)))) (pa_cons (pe_tup (pa_cons pe_int (pa_cons pe_int pa_nil))) (pa_cons (pe_tup (pa_cons pe_int (pa_cons pe_int (pa_cons pe_str pa_nil)))) (pa_cons (pe_tup (pa_cons pe_int (pa_cons pe_int (pa_cons pe_int pa_nil)))) pa_nil)))))))))) (pss_cons (ps_set (i := 9) nd rfl (Or.inl rfl) (pe_op op_addX (pe_op op_addX (pv 9) (pe_lst (pa_cons (pe_tup (pa_cons (pe_op op_sub pe_int pe_int) (pa_cons pe_int (pa_cons pe_str pa_nil)))) (pa_cons (pe_tup (pa_cons (pv 6) (pa_cons pe_int (pa_cons pe_str pa_nil)))) (pa_cons (pe_tup (pa_cons pe_bl (pa_cons pe_int (pa_cons pe_str pa_nil)))) (pa_cons pe_non (pa_cons (pe_lst (pa_cons pe_int (pa_cons pe_int (pa_cons pe_str pa_nil)))) pa_nil))))))) (pe_callTy call_list_of (by rfl) T.b_list (by decide +kernel) (pa_cons (pe_slice sl_X (pv 5) po_none (po_some (pe_callB (call_min2 rfl) (by rfl) T.b_min (by decide +kernel) (pa_cons (pv 8) (pa_cons pe_int pa_nil))))) pa_nil)))) (pss_one (ps_ret (pe_tup (pa_cons (pe_tup (pa_cons (pv 2) (pa_cons (pv 3) (pa_cons (pv 4) (pa_cons (pe_op op_addX (pe_op op_addX (pe_slice sl_X (pv 5) po_none (po_some (pv 8))) (pe_tup (pa_cons (pe_ix ix_seq (pv 9) (pe_dcall G_L_taken (hr.mono (by first | decide | omega)) (pa_cons (pv 0) (pa_cons (pe_callB call_len (by rfl) T.b_len PySem.boot_len (pa_cons (pv 9) pa_nil)) pa_nil))) (fun _ _ => rfl)) pa_nil))) (pe_slice sl_X (pv 5) (po_some (pv 8)) po_none)) pa_nil))))) (pa_cons pe_int (pa_cons (pv 8) pa_nil)))))))))))))
abbrev n_law : List Str := ["_law_script", "_law_row", "_law_turn", "_law_part", "_law_number", "_law_pairs", "_law_r", "_law_words", "_law_bad", "_law_doors", "_law_hall_here", "_law_some", "_law_work", "_law_c"]
abbrev p_law : List Str := ["_law_script"]
theorem sc_law : FnScope n_law p_law (defScope s_law) := ⟨rfl, rfl, rfl, by decide +kernel, rfl, by decide +kernel, by decide +kernel⟩
theorem bd_law {P : Program} {w : World} {K : PySem.W.Frag} {mg : Str → Option Value} {base : Heap} {f : Addr} {cdv : Value} {A : Around} {outer : List Env} {s : Shared} {H : Hp} {E : XK} {aWAYS aWAYS_TURNED aWAYS_MIRRORED : Addr} {sp_L_hall : Sp} {sp_L_odd : Sp} {sp_L_works : Sp} (T : Txt K mg w aWAYS aWAYS_TURNED aWAYS_MIRRORED) {tLW1 tLW2 tLW3 tLW4 tLW5 tLW6 tLW7 : TE} (hLW1 : ∀ p lp pos : Pos, PE (cxOf CX0 P w K mg base n_law "law" (defScope s_law) f cdv A outer s H E).nox (.Call (.Name "_law_word" p) [.Lambda lamArgs lam1B lamScope1 lp] [] pos) tLW1) (hLW2 : ∀ (s1 : Shared) (H1 : Hp) (sc : Scope) (C : Addr) (cl : List (Str × Addr)) (fp : List Addr) (p lp pos : Pos), PE ((cxOf CX0 P w K mg base n_law "law" (defScope s_law) f cdv A outer s H E).nox.blk s1 H1 sc (compEnvC sc cl C (cxOf CX0 P w K mg base n_law "law" (defScope s_law) f cdv A outer s H E).nox.env) fp) (.Name "_law_work" lp) (tVar 12) → Gl ((cxOf CX0 P w K mg base n_law "law" (defScope s_law) f cdv A outer s H E).nox.blk s1 H1 sc (compEnvC sc cl C (cxOf CX0 P w K mg base n_law "law" (defScope s_law) f cdv A outer s H E).nox.env) fp) "_law_word" → PE ((cxOf CX0 P w K mg base n_law "law" (defScope s_law) f cdv A outer s H E).nox.blk s1 H1 sc (compEnvC sc cl C (cxOf CX0 P w K mg base n_law "law" (defScope s_law) f cdv A outer s H E).nox.env) fp) (.Call (.Name "_law_word" p) [.Name "_law_work" lp] [] pos) tLW2) (hLW3 : ∀ p lp pos : Pos, PE (cxOf CX0 P w K mg base n_law "law" (defScope s_law) f cdv A outer s H E).nox (.Call (.Name "_law_word" p) [.Lambda lamArgs lam3B lamScope3 lp] [] pos) tLW3) (hLW4 : ∀ p lp pos : Pos, PE (cxOf CX0 P w K mg base n_law "law" (defScope s_law) f cdv A outer s H E).nox (.Call (.Name "_law_word" p) [.Lambda lamArgs lam4B lamScope4 lp] [] pos) tLW4) (hLW5 : ∀ p lp pos : Pos, PE (cxOf CX0 P w K mg base n_law "law" (defScope s_law) f cdv A outer s H E).nox (.Call (.Name "_law_word" p) [.Lambda lamArgs lam5B lamScope5 lp] [] pos) tLW5) (hLW6 : ∀ p lp pos : Pos, PE (cxOf CX0 P w K mg base n_law "law" (defScope s_law) f cdv A outer s H E).nox (.Call (.Name "_law_word" p) [.Lambda lamArgs lam6B lamScope6 lp] [] pos) tLW6) (hLW7 : ∀ p lp pos : Pos, PE (cxOf CX0 P w K mg base n_law "law" (defScope s_law) f cdv A outer s H E).nox (.Call (.Name "_law_word" p) [.Lambda lamArgs lam7B lamScope7 lp] [] pos) tLW7) (hr : Room 10 (A.deeper (envOfC "law" (defScope s_law) s.heap.objs.size f cdv))) (G_L_hall : DefS P w K mg base CX0 2 "_law_hall" p_L_hall sp_L_hall) (G_L_odd : DefS P w K mg base CX0 2 "_law_odd" p_L_odd sp_L_odd) (G_L_works : DefS P w K mg base CX0 10 "_law_works" p_L_works sp_L_works) :
    PSs (cxOf CX0 P w K mg base n_law "law" (defScope s_law) f cdv A outer s H E).nox (defBody s_law) (rd_law01 K tLW1 tLW2 tLW3 tLW4 tLW5 tLW6 tLW7 sp_L_hall sp_L_odd sp_L_works) := by
  have nd : n_law.Nodup := sc_law.nd
  exact (pss_cons (ps_set (i := 1) nd rfl (Or.inl rfl) (pe_lst (pa_cons (pv 0) (pa_cons pe_int (pa_cons pe_int (pa_cons pe_int pa_nil)))))) (pss_cons (ps_for PassesOwn.never rfl (pi_range1 (by rfl) T.b_range (pa_cons pe_int pa_nil)) (pg_name (i := 2) nd rfl (Or.inl rfl)) (pss_cons (ps_set (i := 10) nd rfl (Or.inr rfl) (pe_dcall G_L_hall (hr.mono (by first | decide | omega)) (pa_cons (pv 1) (pa_cons pe_int (pa_cons pe_int pa_nil))))) (pss_cons (ps_if (pt_cmpR op_notN (hLW1 _ _ _) pe_non (nomark _)) (pss_one (ps_ret pe_bl)) pss_nil) (pss_cons (ps_asg (pe_dcall G_L_odd (hr.mono (by first | decide | omega)) (pa_cons (pv 1) (pa_cons (pv 10) pa_nil))) (pg_tup rfl (pgs_cons (pg_name (i := 8) nd rfl (Or.inr rfl)) (pgs_cons (pg_name (i := 3) nd rfl (Or.inr rfl)) (pgs_cons (pg_name (i := 4) nd rfl (Or.inr rfl)) pgs_nil))))) (pss_cons (ps_if (pt_cmpR (op_neD hr.units) (pe_lc (own := [("_law_work", 12)]) (g := (gName 12)) (tt := (tTest (tOp (rNeD K) tLW2 (tTup (tCons (tC (.str "hall")) (tCons (tVar 3) (tCons (tVar 4) tNil))))))) (te := (tVar 12)) rfl nd (pi_list (pe_dcall G_L_works (hr.mono (by first | decide | omega)) (pa_cons (pv 8) pa_nil))) (blkOk_by (own := [("_law_work", 12)]) (N := ["_law_script", "_law_row", "_law_turn", "_law_part", "_law_number", "_law_pairs", "_law_r", "_law_words", "_law_bad", "_law_doors", "_law_hall_here", "_law_some", "_law_work", "_law_c"]) (sc := defScope s_law) (by decide +kernel)) (fun _ _ _ _ _ => (pg_name (i := 12) nd rfl (Or.inl rfl))) (fun _ _ _ _ _ => (pts_one (pt_cmpR (op_neD hr.units) (hLW2 _ _ _ _ _ _ _ _ _ (pv 12) (by rfl)) (pe_tup (pa_cons pe_str (pa_cons (pv 3) (pa_cons (pv 4) pa_nil)))) (nomark _)))) (fun _ _ _ _ _ => (pv 12))) (pe_lst pa_nil) (nomark _)) (pss_one (ps_ret pe_bl)) pss_nil) (pss_cons (ps_set (i := 5) nd rfl (Or.inl rfl) (pe_lst (pa_cons (pe_tup (pa_cons (pe_tup (pa_cons (pv 10) (pa_cons pe_int pa_nil))) (pa_cons pe_int (pa_cons pe_int pa_nil)))) (pa_cons (pe_tup (pa_cons pe_int (pa_cons pe_int (pa_cons pe_int pa_nil)))) (pa_cons (pe_tup (pa_cons (pe_callTy call_list_of (by rfl) T.b_list (by decide +kernel) (pa_cons (pv 10) pa_nil)) (pa_cons pe_int (pa_cons pe_int pa_nil)))) (pa_cons (pe_tup (pa_cons (pe_op op_addX (pv 10) (pe_tup (pa_cons pe_int pa_nil))) (pa_cons pe_int (pa_cons pe_int pa_nil)))) pa_nil)))))) (pss_cons (ps_expr (pe_bm PySem.F.plainAttrs_list PySem.F.slot_list_append PySem.F.type_list_append mt_append (pv 5) (pa_cons (pe_tup (pa_cons (pe_op op_addX (pe_slice sl_X (pv 10) po_none (po_some pe_int)) (pe_tup (pa_cons (pe_callTy call_list_of (by rfl) T.b_list (by decide +kernel) (pa_cons (pe_ix ix_seq (pv 10) pe_int (fun _ _ => rfl)) pa_nil)) (pa_cons pe_int pa_nil)))) (pa_cons pe_int (pa_cons pe_int pa_nil)))) pa_nil))) (pss_cons (ps_expr (pe_bm PySem.F.plainAttrs_list PySem.F.slot_list_append PySem.F.type_list_append mt_append (pv 5) (pa_cons (pe_tup (pa_cons (pe_op op_addX (pe_slice sl_X (pv 10) po_none (po_some pe_int)) (pe_tup (pa_cons (pe_callTy call_list_of (by rfl) T.b_list (by decide +kernel) (pa_cons (pe_ix ix_seq (pv 10) pe_int (fun _ _ => rfl)) pa_nil)) pa_nil))) (pa_cons pe_int (pa_cons pe_int pa_nil)))) pa_nil))) (pss_one (ps_for PassesOwn.never rfl (pi_list (pv 5)) (pg_tup rfl (pgs_cons (pg_name (i := 8) nd rfl (Or.inr rfl)) (pgs_cons (pg_name (i := 3) nd rfl (Or.inr rfl)) (pgs_cons (pg_name (i := 4) nd rfl (Or.inr rfl)) pgs_nil)))) (pss_one (ps_if (pt_cmpR (op_neD hr.units) (hLW3 _ _ _) (pe_tup (pa_cons pe_str (pa_cons (pv 3) (pa_cons (pv 4) pa_nil)))) (nomark _)) (pss_one (ps_ret pe_bl)) pss_nil)))))))))))) (pss_cons (ps_set (i := 11) nd rfl (Or.inr rfl) (pe_lst pa_nil)) (pss_cons (ps_for PassesOwn.never rfl (pi_range1 (by rfl) T.b_range (pa_cons pe_int pa_nil)) (pg_name (i := 6) nd rfl (Or.inr rfl)) (pss_one (ps_set (i := 11) nd rfl (Or.inr rfl) (pe_op op_addX (pe_op op_addX (pv 11) (pe_lc (own := [("_law_c", 13)]) (g := (gName 13)) (tt := tYes) (te := (tTup (tCons (tVar 6) (tCons (tVar 13) (tCons (tC (.str "-")) tNil))))) rfl nd (pi_range1 (by rfl) T.b_range (pa_cons (pe_op op_mulX' pe_int (pe_callTy call_int1 (by rfl) T.b_int (by decide +kernel) (pa_cons (pe_cmpR op_gt (pv 6) pe_int (nomark _)) pa_nil))) pa_nil)) (blkOk_by (own := [("_law_c", 13)]) (N := ["_law_script", "_law_row", "_law_turn", "_law_part", "_law_number", "_law_pairs", "_law_r", "_law_words", "_law_bad", "_law_doors", "_law_hall_here", "_law_some", "_law_work", "_law_c"]) (sc := defScope s_law) (by decide +kernel)) (fun _ _ _ _ _ => (pg_name (i := 13) nd rfl (Or.inl rfl))) (fun _ _ _ _ _ => pts_nil) (fun _ _ _ _ _ => (pe_tup (pa_cons (pv 6) (pa_cons (pv 13) (pa_cons pe_str pa_nil))))))) (pe_lc (own := [("_law_c", 13)]) (g := (gName 13)) (tt := tYes) (te := (tTup (tCons (tVar 6) (tCons (tVar 13) (tCons (tC (.str "|")) tNil))))) rfl nd (pi_range2 (by rfl) T.b_range (pa_cons pe_int (pa_cons pe_int pa_nil))) (blkOk_by (own := [("_law_c", 13)]) (N := ["_law_script", "_law_row", "_law_turn", "_law_part", "_law_number", "_law_pairs", "_law_r", "_law_words", "_law_bad", "_law_doors", "_law_hall_here", "_law_some", "_law_work", "_law_c"]) (sc := defScope s_law) (by decide +kernel)) (fun _ _ _ _ _ => (pg_name (i := 13) nd rfl (Or.inl rfl))) (fun _ _ _ _ _ => pts_nil) (fun _ _ _ _ _ => (pe_tup (pa_cons (pv 6) (pa_cons (pv 13) (pa_cons pe_str pa_nil)))))))))) (pss_cons (ps_set (i := 9) nd rfl (Or.inr rfl) (pe_lst (pa_cons (pe_tup (pa_cons pe_int (pa_cons pe_int (pa_cons pe_str pa_nil)))) (pa_cons (pe_tup (pa_cons pe_int (pa_cons pe_int (pa_cons pe_str pa_nil)))) (pa_cons (pe_tup (pa_cons pe_int (pa_cons pe_int (pa_cons pe_str pa_nil)))) (pa_cons (pe_tup (pa_cons pe_int (pa_cons pe_int (pa_cons pe_str pa_nil)))) (pa_cons (pe_tup (pa_cons pe_int (pa_cons pe_int (pa_cons pe_str pa_nil)))) (pa_cons (pe_tup (pa_cons pe_int (pa_cons pe_int (pa_cons pe_str pa_nil)))) (pa_cons (pe_tup (pa_cons pe_int (pa_cons pe_int (pa_cons pe_str pa_nil)))) pa_nil))))))))) (pss_cons (ps_set (i := 7) nd rfl (Or.inl rfl) (pe_lst (pa_cons (hLW4 _ _ _) pa_nil))) (pss_cons (ps_expr (pe_bm PySem.F.plainAttrs_list PySem.F.slot_list_append PySem.F.type_list_append mt_append (pv 7) (pa_cons (hLW5 _ _ _) pa_nil))) (pss_cons (ps_expr (pe_bm PySem.F.plainAttrs_list PySem.F.slot_list_append PySem.F.type_list_append mt_append (pv 7) (pa_cons (hLW6 _ _ _) pa_nil))) (pss_cons (ps_expr (pe_bm PySem.F.plainAttrs_list PySem.F.slot_list_append PySem.F.type_list_append mt_append (pv 7) (pa_cons (hLW7 _ _ _) pa_nil))) (pss_one (ps_ret (pe_cmpR (op_eqD hr.units) (pv 7) (pe_lst (pa_cons (pe_tup (pa_cons pe_str (pa_cons pe_int (pa_cons pe_int pa_nil)))) (pa_cons pe_non (pa_cons (pe_tup (pa_cons pe_str (pa_cons pe_int (pa_cons pe_int pa_nil)))) (pa_cons pe_non pa_nil))))) (nomark _)))))))))))))
end Pd
/-! SemH2 -/
set_option Elab.async false
set_option linter.all false
set_option maxRecDepth 100000
set_option maxHeartbeats 4000000
namespace Pd
variable [Pd.Wd]
open PySem PySem.Spec PyProof.Rows L2 PySem.W
local macro_rules | `(tactic| walk_at "ed") => `(tactic| repeat' (first
  | with_reducible (first
    | exact ed_int | exact ed_str | exact ed_bl | exact ed_non
    | exact ea_nil | refine' ea_cons ?_ ?_
    | refine' ed_isi ?_ ?_ | refine' ed_isi2 ?_ ?_ ?_
    | refine' ed_andV ?_ (fun _ => ?_) | refine' ed_orV ?_ (fun _ => ?_) | refine' ed_notV ?_
    | refine' ed_chain ?_ ?_ ?_ (fun _ => ⟨?_, ?_⟩)
    | refine' ed_tup ?_ ?_ | refine' ed_lst ?_ ?_
    | refine' et_not ?_ | refine' et_and ?_ (fun _ => ?_) | refine' et_or ?_ (fun _ => ?_) | exact et_yes
    | refine' et_test ?_ | refine' et_B ?_
    | refine' ed_op ?_ ?_ ?_
    | refine' ed_cb ?_ ?_)
  | exact ed_var rfl
  | exact kit_tt | exact kit_ii | exact kit_ib | exact kit_ll | exact kit_lt | exact kit_tl
  | exact r2_addI | exact r2_subI | exact r2_lt | exact r2_le | exact r2_gt | exact r2_ge | exact r2_isN | exact r2_notN
  | exact rc_lenT | exact rc_lenL | exact rc_intB | exact rc_tupL
  | with_reducible (first | refine' r2_eq ?_ ?_ | refine' r2_ne ?_ ?_)
  | exact sh_int _ | exact sh_sg _ | exact sh_cell _ | exact sh_edge _ | exact sh_pair _ | exact sh_str _ (by decide +kernel)
  | exact r2_ixT rfl | exact r2_ixL rfl
  | refine' ed_tup ?_ ?_
  | (show List.length _ ≤ 100000; simp; done)))
/-! ### any text, cut in pieces -/
def cut (c : Nat) (t : List Nat) : List (List Nat) := (Txt.split (St' t) ⟨#[c]⟩).map fun x => x.cps.toList
/-! ### rows that are rows -/
def figB : List Nat → Bool
  | [c] => decide (48 ≤ c ∧ c < 58)
  | _ => false
theorem figB_iff {l : List Nat} : figB l = true ↔ ∃ d < 10, l = [48 + d] := by
  constructor
  · intro h
    match l, h with
    | [c], h =>
      simp only [figB, decide_eq_true_eq] at h
      exact ⟨c - 48, by omega, by rw [show 48 + (c - 48) = c by omega]⟩
  · rintro ⟨d, hd, rfl⟩
    simp only [figB, decide_eq_true_eq]
    omega
def kindOf (l : List Nat) : Option Nat := if l = kindC 0 then some 0 else if l = kindC 1 then some 1 else if l = kindC 2 then some 2 else if l = kindC 3 then some 3 else none
theorem kindOf_some {l : List Nat} {k : Nat} (h : kindOf l = some k) : k < 4 ∧ l = kindC k := by
  unfold kindOf at h
  repeat' split at h
  all_goals first | (cases h; rename_i q; exact ⟨by decide, q⟩) | cases h
def signB (k : Nat) (more : List (List Nat)) : Bool :=
  if k = 1 then decide (more = [[45]] ∨ more = [[124]]) else if k = 2 then decide (more = [[101]] ∨ more = [[110]] ∨ more = [[115]] ∨ more = [[119]]) else decide (more = [])
def isRowB : List (List Nat) → Bool
  | w :: a :: b :: more => match kindOf w with
    | some k => figB a && figB b && signB k more
    | none => false
  | _ => false
theorem isRowB_cons (w a b : List Nat) (more : List (List Nat)) : isRowB (w :: a :: b :: more) = match kindOf w with
    | some k => figB a && figB b && signB k more
    | none => false := rfl
theorem row_of {ws : List (List Nat)} (h : isRowB ws = true) : ∃ r : Rw, r.Ok ∧ ws = r.words := by
  match ws, h with
  | w :: a :: b :: more, h =>
    rw [isRowB_cons] at h
    cases hk : kindOf w with
    | none => rw [hk] at h; cases h
    | some k =>
      rw [hk] at h
      simp only [Bool.and_eq_true] at h
      obtain ⟨⟨ha, hb⟩, hs⟩ := h
      obtain ⟨x, hx, rfl⟩ := figB_iff.mp ha
      obtain ⟨y, hy, rfl⟩ := figB_iff.mp hb
      obtain ⟨hk4, rfl⟩ := kindOf_some hk
      have k4 : k = 0 ∨ k = 1 ∨ k = 2 ∨ k = 3 := by omega
      rcases k4 with rfl | rfl | rfl | rfl
      · simp [signB] at hs
        subst hs
        exact ⟨⟨0, x, y, none⟩, ⟨hx, hy, .inl ⟨rfl, rfl⟩⟩, rfl⟩
      · simp [signB] at hs
        rcases hs with rfl | rfl
        · exact ⟨⟨1, x, y, some .h⟩, ⟨hx, hy, .inr (.inl ⟨rfl, .inl rfl⟩)⟩, rfl⟩
        · exact ⟨⟨1, x, y, some .v⟩, ⟨hx, hy, .inr (.inl ⟨rfl, .inr rfl⟩)⟩, rfl⟩
      · simp [signB] at hs
        rcases hs with rfl | rfl | rfl | rfl
        · exact ⟨⟨2, x, y, some .e⟩, ⟨hx, hy, .inr (.inr (.inl ⟨rfl, .e, .inl rfl, rfl⟩))⟩, rfl⟩
        · exact ⟨⟨2, x, y, some .n⟩, ⟨hx, hy, .inr (.inr (.inl ⟨rfl, .n, .inr (.inl rfl), rfl⟩))⟩, rfl⟩
        · exact ⟨⟨2, x, y, some .s⟩, ⟨hx, hy, .inr (.inr (.inl ⟨rfl, .s, .inr (.inr (.inl rfl)), rfl⟩))⟩, rfl⟩
        · exact ⟨⟨2, x, y, some .w⟩, ⟨hx, hy, .inr (.inr (.inl ⟨rfl, .w, .inr (.inr (.inr rfl)), rfl⟩))⟩, rfl⟩
      · simp [signB] at hs
        subst hs
        exact ⟨⟨3, x, y, none⟩, ⟨hx, hy, .inr (.inr (.inr ⟨rfl, rfl⟩))⟩, rfl⟩
/-- the row that words are -/
noncomputable def rowOf (ws : List (List Nat)) : Option Rw := if h : isRowB ws = true then some (Classical.choose (row_of h)) else none
/-- row by row: the first that is refused, or all -/
noncomputable def scanR : Nat → Nat → List (List (List Nat)) → Sum Nat (List Rw)
  | _, _, [] => .inr []
  | m, n, ws :: r => match rowOf ws with
    | none => .inl n
    | some x => if (decide (x.k = 0) != decide (n = 0)) || decide (x.k < m) then .inl n else match scanR x.k (n + 1) r with
      | .inl i => .inl i
      | .inr rs => .inr (x :: rs)
noncomputable def scanT (t : List Nat) : Sum Nat (List Rw) := scanR 0 0 ((cut 10 t).map (cut 32))
/-! ### the hall and the cells that rows tell -/
def Rw.edge (r : Rw) : Edge := (r.a, r.b, r.s.getD .h)
def Rw.cell (r : Rw) : Cell := (r.a, r.b)
section
variable {t : List Nat} {rs : List Rw}
end
end Pd
/-! SemH3 -/
set_option Elab.async false
set_option linter.all false
set_option maxRecDepth 100000
set_option maxHeartbeats 4000000
namespace Pd
variable [Pd.Wd]
open PySem PySem.Spec PyProof.Rows L2 PySem.W
local macro_rules | `(tactic| walk_at "ed") => `(tactic| repeat' (first
  | with_reducible (first
    | exact ed_int | exact ed_str | exact ed_bl | exact ed_non
    | exact ea_nil | refine' ea_cons ?_ ?_
    | refine' ed_isi ?_ ?_ | refine' ed_isi2 ?_ ?_ ?_
    | refine' ed_andV ?_ (fun _ => ?_) | refine' ed_orV ?_ (fun _ => ?_) | refine' ed_notV ?_
    | refine' ed_chain ?_ ?_ ?_ (fun _ => ⟨?_, ?_⟩)
    | refine' ed_tup ?_ ?_ | refine' ed_lst ?_ ?_
    | refine' et_not ?_ | refine' et_and ?_ (fun _ => ?_) | refine' et_or ?_ (fun _ => ?_) | exact et_yes
    | refine' et_test ?_ | refine' et_B ?_
    | refine' ed_op ?_ ?_ ?_
    | refine' ed_cb ?_ ?_)
  | exact ed_var rfl
  | exact kit_tt | exact kit_ii | exact kit_ib | exact kit_ll | exact kit_lt | exact kit_tl
  | exact r2_addI | exact r2_subI | exact r2_lt | exact r2_le | exact r2_gt | exact r2_ge | exact r2_isN | exact r2_notN
  | exact rc_lenT | exact rc_lenL | exact rc_intB | exact rc_tupL
  | with_reducible (first | refine' r2_eq ?_ ?_ | refine' r2_ne ?_ ?_)
  | exact sh_int _ | exact sh_sg _ | exact sh_cell _ | exact sh_edge _ | exact sh_pair _ | exact sh_str _ (by decide +kernel)
  | exact r2_ixT rfl | exact r2_ixL rfl
  | refine' ed_tup ?_ ?_
  | (show List.length _ ≤ 100000; simp; done)))
/-! ### rows in general -/
section
variable {K : PySem.W.Frag} {w : World} {ρ : Rho}
end
end Pd
/-! RdL17 -/
set_option Elab.async false
set_option linter.all false
set_option maxRecDepth 100000
set_option maxHeartbeats 4000000
namespace Pd
variable [Pd.Wd]
open PySem PySem.Spec PyProof.Rows L2
end Pd
/-! SemH4 -/
set_option Elab.async false
set_option linter.all false
set_option maxRecDepth 100000
set_option maxHeartbeats 4000000
namespace Pd
variable [Pd.Wd]
open PySem PySem.Spec PyProof.Rows L2 PySem.W
local macro_rules | `(tactic| walk_at "ed") => `(tactic| repeat' (first
  | with_reducible (first
    | exact ed_int | exact ed_str | exact ed_bl | exact ed_non
    | exact ea_nil | refine' ea_cons ?_ ?_
    | refine' ed_isi ?_ ?_ | refine' ed_isi2 ?_ ?_ ?_
    | refine' ed_andV ?_ (fun _ => ?_) | refine' ed_orV ?_ (fun _ => ?_) | refine' ed_notV ?_
    | refine' ed_chain ?_ ?_ ?_ (fun _ => ⟨?_, ?_⟩)
    | refine' ed_tup ?_ ?_ | refine' ed_lst ?_ ?_
    | refine' et_not ?_ | refine' et_and ?_ (fun _ => ?_) | refine' et_or ?_ (fun _ => ?_) | exact et_yes
    | refine' et_test ?_ | refine' et_B ?_
    | refine' ed_op ?_ ?_ ?_
    | refine' ed_cb ?_ ?_)
  | exact ed_var rfl
  | exact kit_tt | exact kit_ii | exact kit_ib | exact kit_ll | exact kit_lt | exact kit_tl
  | exact r2_addI | exact r2_subI | exact r2_lt | exact r2_le | exact r2_gt | exact r2_ge | exact r2_isN | exact r2_notN
  | exact rc_lenT | exact rc_lenL | exact rc_intB | exact rc_tupL
  | with_reducible (first | refine' r2_eq ?_ ?_ | refine' r2_ne ?_ ?_)
  | exact sh_int _ | exact sh_sg _ | exact sh_cell _ | exact sh_edge _ | exact sh_pair _ | exact sh_str _ (by decide +kernel)
  | exact r2_ixT rfl | exact r2_ixL rfl
  | refine' ed_tup ?_ ?_
  | (show List.length _ ≤ 100000; simp; done)))
/-! ### things_of: any text -/
section
variable {K : PySem.W.Frag} {w : World} {B0 B1 H1 B H B' H' : Hp} {p : Addr} {L : Nat → Addr} {σ : L2.St} {ρ ρ1 ρ0 : Rho} {os : Nat → List PyData} {te : TE} {tt : TT} {d : PyData} {i : Nat} {E : XK} {e : Exn}
theorem scanR_cons_none {m n : Nat} {ws : List (List Nat)} {r : List (List (List Nat))} (h : rowOf ws = none) : scanR m n (ws :: r) = .inl n := by
  unfold scanR
  rw [h]
theorem scanR_cons_bad {m n : Nat} {ws : List (List Nat)} {r : List (List (List Nat))} {x : Rw} (h : rowOf ws = some x) (c : ((decide (x.k = 0) != decide (n = 0)) || decide (x.k < m)) = true) : scanR m n (ws :: r) = .inl n := by
  unfold scanR
  rw [h]
  simp only [c, if_true]
theorem scanR_cons_ok {m n : Nat} {ws : List (List Nat)} {r : List (List (List Nat))} {x : Rw} (h : rowOf ws = some x) (c : ((decide (x.k = 0) != decide (n = 0)) || decide (x.k < m)) = false) : scanR m n (ws :: r) = match scanR x.k (n + 1) r with
      | .inl i => .inl i
      | .inr rs => .inr (x :: rs) := by
  show ((match rowOf ws with
    | none => Sum.inl n
    | some x => if (decide (x.k = 0) != decide (n = 0)) || decide (x.k < m) then Sum.inl n else match scanR x.k (n + 1) r with
      | .inl i => Sum.inl i
      | .inr rs => Sum.inr (x :: rs)) : Sum Nat (List Rw)) = _
  rw [h]
  simp only [c]
  rfl
/-- behind n rows -/
def ScI (t : List Nat) (n m : Nat) (rs0 : List Rw) : Prop := rs0.length = n ∧ scanT t = match scanR m n (((cut 10 t).map (cut 32)).drop n) with
  | .inl i => .inl i
  | .inr rs => .inr (rs0 ++ rs)
theorem ScI.start (t : List Nat) : ScI t 0 0 [] := by
  refine ⟨rfl, ?_⟩
  unfold scanT
  rw [List.drop_zero]
  cases scanR 0 0 ((cut 10 t).map (cut 32)) <;> rfl
theorem rows_drop {t : List Nat} {n : Nat} {l : List Nat} (h : (cut 10 t)[n]? = some l) : ((cut 10 t).map (cut 32)).drop n = cut 32 l :: ((cut 10 t).map (cut 32)).drop (n + 1) := by
  obtain ⟨hn, rfl⟩ := List.getElem?_eq_some_iff.mp h
  rw [List.drop_eq_getElem_cons (by rw [List.length_map]; exact hn), List.getElem_map]
theorem ScI.none {t : List Nat} {n m : Nat} {rs0 : List Rw} {l : List Nat} (s : ScI t n m rs0) (h : (cut 10 t)[n]? = some l) (hr : rowOf (cut 32 l) = none) : scanT t = .inl n := by
  rw [s.2, rows_drop h, scanR_cons_none hr]
theorem ScI.bad {t : List Nat} {n m : Nat} {rs0 : List Rw} {l : List Nat} {x : Rw} (s : ScI t n m rs0) (h : (cut 10 t)[n]? = some l) (hr : rowOf (cut 32 l) = some x) (c : ((decide (x.k = 0) != decide (n = 0)) || decide (x.k < m)) = true) : scanT t = .inl n := by
  rw [s.2, rows_drop h, scanR_cons_bad hr c]
theorem ScI.ok {t : List Nat} {n m : Nat} {rs0 : List Rw} {l : List Nat} {x : Rw} (s : ScI t n m rs0) (h : (cut 10 t)[n]? = some l) (hr : rowOf (cut 32 l) = some x) (c : ((decide (x.k = 0) != decide (n = 0)) || decide (x.k < m)) = false) : ScI t (n + 1) x.k (rs0 ++ [x]) := by
  refine ⟨by rw [List.length_append, s.1]; rfl, ?_⟩
  rw [s.2, rows_drop h, scanR_cons_ok hr c]
  cases scanR x.k (n + 1) (((cut 10 t).map (cut 32)).drop (n + 1)) with
  | inl i => rfl
  | inr rs => simp
theorem ScI.end {t : List Nat} {m : Nat} {rs0 : List Rw} (s : ScI t (cut 10 t).length m rs0) : scanT t = .inr rs0 := by
  rw [s.2, List.drop_of_length_le (by rw [List.length_map]; exact Nat.le_refl _)]
  show Sum.inr (rs0 ++ []) = _
  rw [List.append_nil]
end
end Pd
/-! SemH5 -/
set_option Elab.async false
set_option linter.all false
set_option maxRecDepth 100000
set_option maxHeartbeats 4000000
namespace Pd
variable [Pd.Wd]
open PySem PySem.Spec PyProof.Rows L2 PySem.W
local macro_rules | `(tactic| walk_at "ed") => `(tactic| repeat' (first
  | with_reducible (first
    | exact ed_int | exact ed_str | exact ed_bl | exact ed_non
    | exact ea_nil | refine' ea_cons ?_ ?_
    | refine' ed_isi ?_ ?_ | refine' ed_isi2 ?_ ?_ ?_
    | refine' ed_andV ?_ (fun _ => ?_) | refine' ed_orV ?_ (fun _ => ?_) | refine' ed_notV ?_
    | refine' ed_chain ?_ ?_ ?_ (fun _ => ⟨?_, ?_⟩)
    | refine' ed_tup ?_ ?_ | refine' ed_lst ?_ ?_
    | refine' et_not ?_ | refine' et_and ?_ (fun _ => ?_) | refine' et_or ?_ (fun _ => ?_) | exact et_yes
    | refine' et_test ?_ | refine' et_B ?_
    | refine' ed_op ?_ ?_ ?_
    | refine' ed_cb ?_ ?_)
  | exact ed_var rfl
  | exact kit_tt | exact kit_ii | exact kit_ib | exact kit_ll | exact kit_lt | exact kit_tl
  | exact r2_addI | exact r2_subI | exact r2_lt | exact r2_le | exact r2_gt | exact r2_ge | exact r2_isN | exact r2_notN
  | exact rc_lenT | exact rc_lenL | exact rc_intB | exact rc_tupL
  | with_reducible (first | refine' r2_eq ?_ ?_ | refine' r2_ne ?_ ?_)
  | exact sh_int _ | exact sh_sg _ | exact sh_cell _ | exact sh_edge _ | exact sh_pair _ | exact sh_str _ (by decide +kernel)
  | exact r2_ixT rfl | exact r2_ixL rfl
  | refine' ed_tup ?_ ?_
  | (show List.length _ ≤ 100000; simp; done)))
/-! ### read: any text -/
end Pd
/-! SemH6 -/
set_option Elab.async false
set_option linter.all false
set_option maxRecDepth 100000
set_option maxHeartbeats 4000000
namespace Pd
variable [Pd.Wd]
open PySem PySem.Spec PyProof.Rows L2 PySem.W
local macro_rules | `(tactic| walk_at "ed") => `(tactic| repeat' (first
  | with_reducible (first
    | exact ed_int | exact ed_str | exact ed_bl | exact ed_non
    | exact ea_nil | refine' ea_cons ?_ ?_
    | refine' ed_isi ?_ ?_ | refine' ed_isi2 ?_ ?_ ?_
    | refine' ed_andV ?_ (fun _ => ?_) | refine' ed_orV ?_ (fun _ => ?_) | refine' ed_notV ?_
    | refine' ed_chain ?_ ?_ ?_ (fun _ => ⟨?_, ?_⟩)
    | refine' ed_tup ?_ ?_ | refine' ed_lst ?_ ?_
    | refine' et_not ?_ | refine' et_and ?_ (fun _ => ?_) | refine' et_or ?_ (fun _ => ?_) | exact et_yes
    | refine' et_test ?_ | refine' et_B ?_
    | refine' ed_op ?_ ?_ ?_
    | refine' ed_cb ?_ ?_)
  | exact ed_var rfl
  | exact kit_tt | exact kit_ii | exact kit_ib | exact kit_ll | exact kit_lt | exact kit_tl
  | exact r2_addI | exact r2_subI | exact r2_lt | exact r2_le | exact r2_gt | exact r2_ge | exact r2_isN | exact r2_notN
  | exact rc_lenT | exact rc_lenL | exact rc_intB | exact rc_tupL
  | with_reducible (first | refine' r2_eq ?_ ?_ | refine' r2_ne ?_ ?_)
  | exact sh_int _ | exact sh_sg _ | exact sh_cell _ | exact sh_edge _ | exact sh_pair _ | exact sh_str _ (by decide +kernel)
  | exact r2_ixT rfl | exact r2_ixL rfl
  | refine' ed_tup ?_ ?_
  | (show List.length _ ≤ 100000; simp; done)))
/-! ### what is due of a text -/
/-- a list of four lists, under way -/
structure Td (B0 B1 H1 : Hp) (p : Addr) (L : Nat → Addr) (σ : L2.St) (B H : Hp) (ρ : Rho) (os : Nat → List PyData) : Prop where
  b0 : Ex B0 B
  g : Gr B1 H1 B H
  e : EnvD σ B ρ
  s : σ[4]? = some (some (.ref p))
  np : B p = none
  fp : H1 p = none
  hp : H p = some (.lst ((List.range 4).map fun k => V.ref (L k)))
  nl : ∀ k, k < 4 → B (L k) = none ∧ H1 (L k) = none ∧ L k ≠ p
  hl : ∀ k, k < 4 → ∃ xs, H (L k) = some (.lst xs) ∧ DHs B xs (os k)
  inj : ∀ j k, j < 4 → k < 4 → L j = L k → j = k
section
variable {K : PySem.W.Frag} {w : World} {B0 B1 H1 B H B' H' : Hp} {p : Addr} {L : Nat → Addr} {σ : L2.St} {ρ ρ1 ρ0 : Rho} {os : Nat → List PyData} {te : TE} {tt : TT} {d : PyData} {i : Nat}
theorem Td.mono (o : Td B0 B1 H1 p L σ B H ρ os) (k : Gr B H B' H') : Td B0 B1 H1 p L σ B' H' ρ os := by
  refine ⟨o.b0.trans k.b, o.g.trans k, o.e.mono k.b, o.s, k.n p o.np (by rw [o.hp]; exact fun z => nomatch z), o.fp, k.h _ _ o.hp, fun j hj => ?_, fun j hj => ?_, o.inj⟩
  · obtain ⟨h1, h2, h3⟩ := o.nl j hj
    obtain ⟨xs, h4, _⟩ := o.hl j hj
    exact ⟨k.n _ h1 (by rw [h4]; exact fun z => nomatch z), h2, h3⟩
  · obtain ⟨xs, h4, h5⟩ := o.hl j hj
    exact ⟨xs, k.h _ _ h4, h5.mono k.b⟩
theorem Td.set {v : V} (o : Td B0 B1 H1 p L σ B H ρ os) (hi : i ≠ 4) (dv : DH B v d) : Td B0 B1 H1 p L (σ.set i (some v)) B H (ρ.set i (some d)) os :=
  ⟨o.b0, o.g, o.e.set i dv, by rw [List.getElem?_set_ne hi]; exact o.s, o.np, o.fp, o.hp, o.nl, o.hl, o.inj⟩
theorem Td.less (o : Td B0 B1 H1 p L σ B H ρ os) (k : Rle ρ0 ρ) : Td B0 B1 H1 p L σ B H ρ0 os :=
  ⟨o.b0, o.g, o.e.less k, o.s, o.np, o.fp, o.hp, o.nl, o.hl, o.inj⟩
theorem Td.base {B0' : Hp} (o : Td B0 B1 H1 p L σ B H ρ os) (k : Ex B0' B) : Td B0' B1 H1 p L σ B H ρ os := ⟨k, o.g, o.e, o.s, o.np, o.fp, o.hp, o.nl, o.hl, o.inj⟩
theorem Td.env {σ' : L2.St} {vs : List Nat} (o : Td B0 B1 H1 p L σ B H ρ os) (e : EnvD σ' B ρ1) (w : L2.wipe σ' vs = L2.wipe σ vs) (hj : 4 ∉ vs) : Td B0 B1 H1 p L σ' B H ρ1 os := by
  refine ⟨o.b0, o.g, e, ?_, o.np, o.fp, o.hp, o.nl, o.hl, o.inj⟩
  have h1 := wipe_get σ' vs 4
  have h2 := wipe_get σ vs 4
  rw [if_neg (fun z => hj z.1)] at h1 h2
  rw [← h1, w, h2]
  exact o.s
theorem Td.done (o : Td B0 B1 H1 p L σ B H ρ os) : ∃ B', Ex B B' ∧ Gr B1 H1 B' H ∧ B' p = none ∧ ∀ k, k < 4 → DH B' (.ref (L k)) (.list (os k)) := by
  have key : ∀ n, n ≤ 4 → ∃ B', Ex B B' ∧ Gr B1 H1 B' H ∧ B' p = none ∧ (∀ k, k < n → DH B' (.ref (L k)) (.list (os k))) ∧ ∀ k, n ≤ k → k < 4 → B' (L k) = none := by
    intro n
    induction n with
    | zero => exact fun _ => ⟨B, Ex.refl B, o.g, o.np, fun k hk => absurd hk (by omega), fun k _ hk => (o.nl k hk).1⟩
    | succ n ih =>
      intro hn
      obtain ⟨B2, e2, g2, p2, d2, n2⟩ := ih (by omega)
      obtain ⟨_, f, ne⟩ := o.nl n (by omega)
      obtain ⟨xs, hl, hx⟩ := o.hl n (by omega)
      obtain ⟨B3, e3, g3, d3, k3⟩ := g2.take (n2 n (Nat.le_refl n) (by omega)) f hl (hx.mono e2)
      refine ⟨B3, e2.trans e3, g3, by rw [k3 p (fun z => ne z.symm)]; exact p2, fun k hk => ?_, fun k hk hk4 => ?_⟩
      · by_cases e : k = n
        · rw [e]
          exact d3
        · exact (d2 k (by omega)).mono e3
      · rw [k3 _ (fun z => by have := o.inj k n hk4 (by omega) z; omega)]
        exact n2 k (by omega) hk4
  obtain ⟨B', a, b, c, d, _⟩ := key 4 (Nat.le_refl 4)
  exact ⟨B', a, b, c, d⟩

end
end Pd
/-! SemH7 -/
set_option Elab.async false
set_option linter.all false
set_option maxRecDepth 100000
set_option maxHeartbeats 4000000
namespace Pd
variable [Pd.Wd]
open PySem PySem.Spec PyProof.Rows L2 PySem.W
local macro_rules | `(tactic| walk_at "ed") => `(tactic| repeat' (first
  | with_reducible (first
    | exact ed_int | exact ed_str | exact ed_bl | exact ed_non
    | exact ea_nil | refine' ea_cons ?_ ?_
    | refine' ed_isi ?_ ?_ | refine' ed_isi2 ?_ ?_ ?_
    | refine' ed_andV ?_ (fun _ => ?_) | refine' ed_orV ?_ (fun _ => ?_) | refine' ed_notV ?_
    | refine' ed_chain ?_ ?_ ?_ (fun _ => ⟨?_, ?_⟩)
    | refine' ed_tup ?_ ?_ | refine' ed_lst ?_ ?_
    | refine' et_not ?_ | refine' et_and ?_ (fun _ => ?_) | refine' et_or ?_ (fun _ => ?_) | exact et_yes
    | refine' et_test ?_ | refine' et_B ?_
    | refine' ed_op ?_ ?_ ?_
    | refine' ed_cb ?_ ?_)
  | exact ed_var rfl
  | exact kit_tt | exact kit_ii | exact kit_ib | exact kit_ll | exact kit_lt | exact kit_tl
  | exact r2_addI | exact r2_subI | exact r2_lt | exact r2_le | exact r2_gt | exact r2_ge | exact r2_isN | exact r2_notN
  | exact rc_lenT | exact rc_lenL | exact rc_intB | exact rc_tupL
  | with_reducible (first | refine' r2_eq ?_ ?_ | refine' r2_ne ?_ ?_)
  | exact sh_int _ | exact sh_sg _ | exact sh_cell _ | exact sh_edge _ | exact sh_pair _ | exact sh_str _ (by decide +kernel)
  | exact r2_ixT rfl | exact r2_ixL rfl
  | refine' ed_tup ?_ ?_
  | (show List.length _ ≤ 100000; simp; done)))
/-! ### what the law holds for due of a text -/
section
variable {K : PySem.W.Frag} {ρ : Rho} {ta te : TE}
end
end Pd
/-! SemH8 -/
set_option Elab.async false
set_option linter.all false
set_option maxRecDepth 100000
set_option maxHeartbeats 4000000
namespace Pd
variable [Pd.Wd]
open PySem PySem.Spec PyProof.Rows L2 PySem.W
local macro_rules | `(tactic| walk_at "ed") => `(tactic| repeat' (first
  | with_reducible (first
    | exact ed_int | exact ed_str | exact ed_bl | exact ed_non
    | exact ea_nil | refine' ea_cons ?_ ?_
    | refine' ed_isi ?_ ?_ | refine' ed_isi2 ?_ ?_ ?_
    | refine' ed_andV ?_ (fun _ => ?_) | refine' ed_orV ?_ (fun _ => ?_) | refine' ed_notV ?_
    | refine' ed_chain ?_ ?_ ?_ (fun _ => ⟨?_, ?_⟩)
    | refine' ed_tup ?_ ?_ | refine' ed_lst ?_ ?_
    | refine' et_not ?_ | refine' et_and ?_ (fun _ => ?_) | refine' et_or ?_ (fun _ => ?_) | exact et_yes
    | refine' et_test ?_ | refine' et_B ?_
    | refine' ed_op ?_ ?_ ?_
    | refine' ed_cb ?_ ?_)
  | exact ed_var rfl
  | exact kit_tt | exact kit_ii | exact kit_ib | exact kit_ll | exact kit_lt | exact kit_tl
  | exact r2_addI | exact r2_subI | exact r2_lt | exact r2_le | exact r2_gt | exact r2_ge | exact r2_isN | exact r2_notN
  | exact rc_lenT | exact rc_lenL | exact rc_intB | exact rc_tupL
  | with_reducible (first | refine' r2_eq ?_ ?_ | refine' r2_ne ?_ ?_)
  | exact sh_int _ | exact sh_sg _ | exact sh_cell _ | exact sh_edge _ | exact sh_pair _ | exact sh_str _ (by decide +kernel)
  | exact r2_ixT rfl | exact r2_ixL rfl
  | refine' ed_tup ?_ ?_
  | (show List.length _ ≤ 100000; simp; done)))
/-! ### what the law holds for due of a text: its run -/
section
variable {K : PySem.W.Frag}
end
end Pd
/-! SemH9 -/
set_option Elab.async false
set_option linter.all false
set_option maxRecDepth 100000
set_option maxHeartbeats 4000000
namespace Pd
variable [Pd.Wd]
open PySem PySem.Spec PyProof.Rows L2 PySem.W
local macro_rules | `(tactic| walk_at "ed") => `(tactic| repeat' (first
  | with_reducible (first
    | exact ed_int | exact ed_str | exact ed_bl | exact ed_non
    | exact ea_nil | refine' ea_cons ?_ ?_
    | refine' ed_isi ?_ ?_ | refine' ed_isi2 ?_ ?_ ?_
    | refine' ed_andV ?_ (fun _ => ?_) | refine' ed_orV ?_ (fun _ => ?_) | refine' ed_notV ?_
    | refine' ed_chain ?_ ?_ ?_ (fun _ => ⟨?_, ?_⟩)
    | refine' ed_tup ?_ ?_ | refine' ed_lst ?_ ?_
    | refine' et_not ?_ | refine' et_and ?_ (fun _ => ?_) | refine' et_or ?_ (fun _ => ?_) | exact et_yes
    | refine' et_test ?_ | refine' et_B ?_
    | refine' ed_op ?_ ?_ ?_
    | refine' ed_cb ?_ ?_)
  | exact ed_var rfl
  | exact kit_tt | exact kit_ii | exact kit_ib | exact kit_ll | exact kit_lt | exact kit_tl
  | exact r2_addI | exact r2_subI | exact r2_lt | exact r2_le | exact r2_gt | exact r2_ge | exact r2_isN | exact r2_notN
  | exact rc_lenT | exact rc_lenL | exact rc_intB | exact rc_tupL
  | with_reducible (first | refine' r2_eq ?_ ?_ | refine' r2_ne ?_ ?_)
  | exact sh_int _ | exact sh_sg _ | exact sh_cell _ | exact sh_edge _ | exact sh_pair _ | exact sh_str _ (by decide +kernel)
  | exact r2_ixT rfl | exact r2_ixL rfl
  | refine' ed_tup ?_ ?_
  | (show List.length _ ≤ 100000; simp; done)))
/-! ### a text that is changed -/
theorem cut_dropG (ds : List PyData) (n : Nat) : cutD ds (some (n : Int)) none = ds.drop n := by
  unfold cutD
  rw [HT.sIx_nat, HT.sIx_none]
  by_cases h : n ≤ ds.length
  · rw [Nat.min_eq_left h, List.take_of_length_le (by rw [List.length_drop]; omega)]
  · rw [Nat.min_eq_right (by omega), List.drop_of_length_le (Nat.le_refl _), List.drop_of_length_le (by omega)]
    simp
section
variable {K : PySem.W.Frag} {c : Cfg} {ρ : Rho} {os : OS} {te tb ta : TE} {P : PyData → Prop}
theorem ei_drawG {m : Int} (hr : CK c K) (h : ED te ρ (.int m)) (h1 : 1 ≤ m) (h2 : m ≤ 1000000000) : EI c (tCallD (spW K P_taken R_taken) (tCons (tVar 0) (tCons te tNil))) ρ os (fun d => ∃ n : Nat, d = .int n ∧ (n : Int) < m) := by
  obtain ⟨h0, rfl⟩ := hr
  rw [← h0]
  refine (ei_callW (ai_cons (ei_pure h) fun d _ => ai_nil) ?_).imp ?_
  · rintro ds ⟨d, es, rfl, rfl, rfl⟩
    exact ⟨m, rfl, h1, h2⟩
  · rintro d ⟨ds, ⟨d', es, rfl, rfl, rfl⟩, m', n, e, rfl, h3, h4⟩
    simp only [List.cons.injEq, PyData.int.injEq, and_true] at e
    subst e
    exact ⟨n.toNat, by rw [Int.toNat_of_nonneg h3], by omega⟩
end
end Pd
/-! SemHA -/
set_option Elab.async false
set_option linter.all false
set_option maxRecDepth 100000
set_option maxHeartbeats 4000000
namespace Pd
variable [Pd.Wd]
open PySem PySem.Spec PyProof.Rows L2 PySem.W
local macro_rules | `(tactic| walk_at "ed") => `(tactic| repeat' (first
  | with_reducible (first
    | exact ed_int | exact ed_str | exact ed_bl | exact ed_non
    | exact ea_nil | refine' ea_cons ?_ ?_
    | refine' ed_isi ?_ ?_ | refine' ed_isi2 ?_ ?_ ?_
    | refine' ed_andV ?_ (fun _ => ?_) | refine' ed_orV ?_ (fun _ => ?_) | refine' ed_notV ?_
    | refine' ed_chain ?_ ?_ ?_ (fun _ => ⟨?_, ?_⟩)
    | refine' ed_tup ?_ ?_ | refine' ed_lst ?_ ?_
    | refine' et_not ?_ | refine' et_and ?_ (fun _ => ?_) | refine' et_or ?_ (fun _ => ?_) | exact et_yes
    | refine' et_test ?_ | refine' et_B ?_
    | refine' ed_op ?_ ?_ ?_
    | refine' ed_cb ?_ ?_)
  | exact ed_var rfl
  | exact kit_tt | exact kit_ii | exact kit_ib | exact kit_ll | exact kit_lt | exact kit_tl
  | exact r2_addI | exact r2_subI | exact r2_lt | exact r2_le | exact r2_gt | exact r2_ge | exact r2_isN | exact r2_notN
  | exact rc_lenT | exact rc_lenL | exact rc_intB | exact rc_tupL
  | with_reducible (first | refine' r2_eq ?_ ?_ | refine' r2_ne ?_ ?_)
  | exact sh_int _ | exact sh_sg _ | exact sh_cell _ | exact sh_edge _ | exact sh_pair _ | exact sh_str _ (by decide +kernel)
  | exact r2_ixT rfl | exact r2_ixL rfl
  | refine' ed_tup ?_ ?_
  | (show List.length _ ≤ 100000; simp; done)))
section
variable {K : PySem.W.Frag}
end
end Pd
/-! SemKA -/
set_option Elab.async false
set_option linter.all false
set_option maxRecDepth 100000
set_option maxHeartbeats 4000000
namespace Pd
variable [Pd.Wd]
open PySem PySem.Spec PyProof.Rows L2 PySem.W
local macro_rules | `(tactic| walk_at "ed") => `(tactic| repeat' (first
  | with_reducible (first
    | exact ed_int | exact ed_str | exact ed_bl | exact ed_non
    | exact ea_nil | refine' ea_cons ?_ ?_
    | refine' ed_isi ?_ ?_ | refine' ed_isi2 ?_ ?_ ?_
    | refine' ed_andV ?_ (fun _ => ?_) | refine' ed_orV ?_ (fun _ => ?_) | refine' ed_notV ?_
    | refine' ed_chain ?_ ?_ ?_ (fun _ => ⟨?_, ?_⟩)
    | refine' ed_tup ?_ ?_ | refine' ed_lst ?_ ?_
    | refine' et_not ?_ | refine' et_and ?_ (fun _ => ?_) | refine' et_or ?_ (fun _ => ?_) | exact et_yes
    | refine' et_test ?_ | refine' et_B ?_
    | refine' ed_op ?_ ?_ ?_
    | refine' ed_cb ?_ ?_)
  | exact ed_var rfl
  | exact kit_tt | exact kit_ii | exact kit_ib | exact kit_ll | exact kit_lt | exact kit_tl
  | exact r2_addI | exact r2_subI | exact r2_lt | exact r2_le | exact r2_gt | exact r2_ge | exact r2_isN | exact r2_notN
  | exact rc_lenT | exact rc_lenL | exact rc_intB | exact rc_tupL
  | with_reducible (first | refine' r2_eq ?_ ?_ | refine' r2_ne ?_ ?_)
  | exact sh_int _ | exact sh_sg _ | exact sh_cell _ | exact sh_edge _ | exact sh_pair _ | exact sh_str _ (by decide +kernel)
  | exact r2_ixT rfl | exact r2_ixL rfl
  | refine' ed_tup ?_ ?_
  | (show List.length _ ≤ 100000; simp; done)))
/-! ### pieces and halls told otherwise: pure -/
def AtomD (d : PyData) : Prop := d.canLay0 = true ∧ d.depth = 0 ∧ NoDict d
theorem atom_int (i : Int) : AtomD (.int i) := ⟨lay_int i, by simp [PyData.depth], (fun _ z => nomatch z)⟩
theorem atom_bl (b : Bool) : AtomD (.bool b) := ⟨by simp [PyData.canLay0], by simp [PyData.depth], (fun _ z => nomatch z)⟩
theorem atom_non : AtomD .none := ⟨by simp [PyData.canLay0], by simp [PyData.depth], (fun _ z => nomatch z)⟩
theorem atom_str (x : Str) (h : PyData.strOk x = true) : AtomD (.str x) := ⟨by simpa [PyData.canLay0] using h, by simp [PyData.depth], (fun _ z => nomatch z)⟩
theorem atom_sg (s : Sg) : AtomD (sg s) := ⟨lay_sg s, by simp [sg, PyData.depth], (fun _ z => nomatch z)⟩
theorem AtomD.sh {d : PyData} (h : AtomD d) : SeqAt.shaped d = true := shaped_of h.1 (by rw [h.2.1]; decide)
structure FlP (d : PyData) : Prop where
  lay : d.canLay0 = true
  dep : d.depth ≤ 2
  nd : NoDict d
  c : ∀ ds, d = .tuple ds → ∀ z ∈ ds, NoDict z ∧ SeqAt.shaped z = true
theorem layAll_of : ∀ {es : List PyData}, (∀ e ∈ es, e.canLay0 = true) → PyData.canLayAll0 es = true
  | [], _ => by simp [PyData.canLayAll0]
  | e :: es, h => by simp [PyData.canLayAll0, h e (.head _), layAll_of fun x hx => h x (.tail _ hx)]
theorem depAll_of {n : Nat} : ∀ {es : List PyData}, (∀ e ∈ es, e.depth ≤ n) → PyData.depthAll es ≤ n
  | [], _ => by simp [PyData.depthAll]
  | e :: es, h => by
    have h1 := h e (.head _)
    have h2 := depAll_of (es := es) fun x hx => h x (.tail _ hx)
    simp only [PyData.depthAll]
    omega
theorem fl_atom {d : PyData} (h : AtomD d) (hn : ∀ ds, d ≠ .tuple ds) : FlP d := ⟨h.1, by rw [h.2.1]; decide, h.2.2, fun ds e => absurd e (hn ds)⟩
theorem fl_tup {ds : List PyData} (h : ∀ z ∈ ds, AtomD z) : FlP (.tuple ds) := by
  refine ⟨by simp only [PyData.canLay0]; exact layAll_of fun z hz => (h z hz).1, ?_, (fun _ z => nomatch z), fun es e z hz => ?_⟩
  · have := depAll_of (n := 0) fun z hz => Nat.le_of_eq (h z hz).2.1
    simp only [PyData.depth]
    omega
  · cases e
    exact ⟨(h z hz).2.2, (h z hz).sh⟩
theorem fl_lst {ds : List PyData} (h : ∀ z ∈ ds, AtomD z) : FlP (.list ds) := by
  refine ⟨by simp only [PyData.canLay0]; exact layAll_of fun z hz => (h z hz).1, ?_, (fun _ z => nomatch z), fun es e => nomatch e⟩
  have := depAll_of (n := 0) fun z hz => Nat.le_of_eq (h z hz).2.1
  simp only [PyData.depth]
  omega
theorem fl_edge (e : Edge) : FlP (edgeD e) := fl_tup fun z hz => by
  simp only [List.mem_cons, List.not_mem_nil, or_false] at hz
  rcases hz with rfl | rfl | rfl
  · exact atom_int _
  · exact atom_int _
  · exact atom_sg _
theorem FlP.pc {d : PyData} (h : FlP d) : PcOk d := ⟨h.nd, shaped_of h.lay (by have := h.dep; omega), h.c⟩
theorem esOk_of {es : List PyData} (h : ∀ e ∈ es, FlP e) : EsOk es := by
  refine ⟨fun e he => (h e he).pc, fun n => ?_⟩
  have hm : ∀ e ∈ es.take n, FlP e := fun e he => h e (List.mem_of_mem_take he)
  have h1 := layAll_of fun e he => (hm e he).lay
  have h2 := depAll_of (n := 2) fun e he => (hm e he).dep
  exact ⟨shaped_of (by simp only [PyData.canLay0]; exact h1) (by simp only [PyData.depth]; omega), shaped_of (by simp only [PyData.canLay0]; exact h1) (by simp only [PyData.depth]; omega)⟩
/-- an odd piece behind pieces that are well: it is told -/
theorem chk_odd' {CH : Addr} {h : Hall} {part most : Nat} {A : List Edge} {B : List PyData} {odd : PyData} {tk : List Edge} (hA : ∀ e ∈ A, isEdge h e = true) (hn : A.Nodup) (ht : ∀ e ∈ A, e ∉ tk) (hl : A.length ≤ most)
    (bad : edgeG h.rows h.cols odd = false ∨ ((A.map edgeD).any fun z => PyData.eqv z odd) = true) :
    chkEdgesG CH h.rows h.cols part (A.map edgeD ++ odd :: B) most (tk.map edgeD) = some (exH CH part (A.length : Nat)) := by
  unfold chkEdgesG
  refine firstX_at (k := A.length) (x := odd) (by rw [List.getElem?_append_right (by simp)]; simp) (fun m z hm hz => ?_) ?_
  · rw [List.getElem?_append_left (by rw [List.length_map]; exact hm), List.getElem?_map, List.getElem?_eq_getElem hm] at hz
    cases hz
    have hmem := List.getElem_mem hm
    have htk : (A.map edgeD ++ odd :: B).take m = (A.take m).map edgeD := by
      rw [List.take_append_of_le_length (by rw [List.length_map]; omega), List.map_take]
    unfold edgeXG
    rw [Nat.zero_add, htk, edgeG_edge, hA _ hmem, any_edge, any_edge]
    rw [decide_eq_false (show ¬ m = most by omega), decide_eq_false (ht _ hmem), decide_eq_false (not_mem_take hn (List.getElem?_eq_getElem hm))]
    rfl
  · have htk : (A.map edgeD ++ odd :: B).take A.length = A.map edgeD := by
      rw [List.take_append_of_le_length (by rw [List.length_map]; omega), List.take_of_length_le (by rw [List.length_map]; omega)]
    unfold edgeXG
    rw [Nat.zero_add, htk]
    rcases bad with q | q
    · rw [q]
      simp
    · rw [q]
      cases edgeG h.rows h.cols odd <;> cases decide (A.length = most) <;> simp
/-- .. or none, but one too many -/
theorem chk_most {CH : Addr} {h : Hall} {part : Nat} {A : List Edge} {B : List PyData} {x : PyData} {tk : List Edge} (hA : ∀ e ∈ A, isEdge h e = true) (hn : A.Nodup) (ht : ∀ e ∈ A, e ∉ tk) :
    chkEdgesG CH h.rows h.cols part (A.map edgeD ++ x :: B) A.length (tk.map edgeD) = some (exH CH part (A.length : Nat)) := by
  unfold chkEdgesG
  refine firstX_at (k := A.length) (x := x) (by rw [List.getElem?_append_right (by simp)]; simp) (fun m z hm hz => ?_) ?_
  · rw [List.getElem?_append_left (by rw [List.length_map]; exact hm), List.getElem?_map, List.getElem?_eq_getElem hm] at hz
    cases hz
    have hmem := List.getElem_mem hm
    have htk : (A.map edgeD ++ x :: B).take m = (A.take m).map edgeD := by
      rw [List.take_append_of_le_length (by rw [List.length_map]; omega), List.map_take]
    unfold edgeXG
    rw [Nat.zero_add, htk, edgeG_edge, hA _ hmem, any_edge, any_edge]
    rw [decide_eq_false (show ¬ m = A.length by omega), decide_eq_false (ht _ hmem), decide_eq_false (not_mem_take hn (List.getElem?_eq_getElem hm))]
    rfl
  · unfold edgeXG
    rw [Nat.zero_add, decide_eq_true rfl]
    rfl
theorem wayOf_sg {w : Sg} (h : Way w) : wayOf (sg w) = some w := by
  rcases h with rfl | rfl | rfl | rfl <;> rfl
theorem doorG_edge {e : Edge} (h : Way e.2.2) : doorG (edgeD e) = some (ef e) := by
  show Option.map _ (wayOf (sg e.2.2)) = _
  rw [wayOf_sg h]
  rfl
theorem doorsG_map {ds : List Edge} (h : ∀ e ∈ ds, Way e.2.2) : doorsG (ds.map edgeD) = (ds.map ef).map edgeD := by
  unfold doorsG
  rw [List.map_map, List.map_map]
  refine List.map_congr_left fun e he => ?_
  show optE (doorG (edgeD e)) = _
  rw [doorG_edge (h e he)]
  rfl
theorem drOk_edge (e : Edge) : DrOk (edgeD e) := ⟨fun _ z => (nomatch z), fun a b s z => by
  cases z
  exact ⟨fun _ z => (nomatch z), fun _ z => (nomatch z), .inr ⟨_, rfl⟩⟩⟩
/-! the odd pieces -/
def oddW (R C F : Int) (xs : List Edge) : List PyData :=
  [.tuple [.int 0, .int 0, .str "-"], .tuple [.int 0, .int 0, .str "|"], .tuple [.int R, .int 0, .str "-"], .tuple [.int 0, .int C, .str "|"], .tuple [.int 1, .int 1], .tuple [.int 1, .int 0, .str "+"], .tuple [.bool true, .int 0, .str "-"]]
    ++ [.none, .int 5, .tuple [.int F, .int 0, .str "-"], .tuple [.int 1, .int 0, .int 5], .list [.int 1, .int 0, .str "-"]] ++ xs.map edgeD
def oddD (R C F : Int) (xs : List Edge) : List PyData :=
  [.tuple [.int 0, .int 0, .str "n"], .tuple [.int 0, .int 0, .str "e"], .tuple [.int 0, .int 0, .str "s"], .tuple [.int R, .int C, .str "w"], .tuple [.int R, .int C, .str "n"], .tuple [.int 1, .int 1], .tuple [.int 1, .int 1, .str "x"], .tuple [.int 1, .int 1, .int 0]]
    ++ [.tuple [.int (0 - 1), .int 0, .str "s"], .tuple [.int F, .int 0, .str "n"], .tuple [.bool true, .int 1, .str "n"], .none, .list [.int 1, .int 1, .str "n"]] ++ xs.map edgeD
theorem edgeG_h {h : Hall} {a b : Int} : edgeG h.rows h.cols (.tuple [.int a, .int b, .str "-"]) = isEdge h (a, b, .h) := by
  rw [lit_h]
  exact edgeG_edge (e := (a, b, .h))
theorem edgeG_v {h : Hall} {a b : Int} : edgeG h.rows h.cols (.tuple [.int a, .int b, .str "|"]) = isEdge h (a, b, .v) := by
  rw [lit_v]
  exact edgeG_edge (e := (a, b, .v))
theorem ok_plus : PyData.strOk "+" = true := by decide +kernel
theorem atom_h : AtomD (.str "-") := by rw [lit_h]; exact atom_sg _
theorem atom_v : AtomD (.str "|") := by rw [lit_v]; exact atom_sg _
theorem eqv_ph : PyData.eqv (.str "+") (.str "-") = false := by simp only [PyData.eqv]; decide +kernel
theorem eqv_pv : PyData.eqv (.str "+") (.str "|") = false := by simp only [PyData.eqv]; decide +kernel
theorem at3 {a b s : PyData} (ha : AtomD a) (hb : AtomD b) (hs : AtomD s) : ∀ z ∈ [a, b, s], AtomD z := fun z hz => by
  simp only [List.mem_cons, List.not_mem_nil, or_false] at hz
  rcases hz with rfl | rfl | rfl
  · exact ha
  · exact hb
  · exact hs
theorem oddW_ok {h : Hall} (o : HallOk h) {F : Int} (hF : 6 ≤ F) {k : Nat} {d : PyData} (hd : d ∈ oddW h.rows h.cols F (h.walls.take (min k 1))) : FlP d ∧ (edgeG h.rows h.cols d = false ∨ (((h.walls.take k).map edgeD).any fun z => PyData.eqv z d) = true) := by
  have hr := o.rows
  have hc := o.cols
  unfold oddW at hd
  rw [List.mem_append, List.mem_append] at hd
  rcases hd with (hd | hd) | hd
  · simp only [List.mem_cons, List.not_mem_nil, or_false] at hd
    rcases hd with rfl | rfl | rfl | rfl | rfl | rfl | rfl
    · exact ⟨fl_tup (at3 (atom_int _) (atom_int _) atom_h), .inl (by rw [edgeG_h]; simp [isEdge])⟩
    · exact ⟨fl_tup (at3 (atom_int _) (atom_int _) atom_v), .inl (by rw [edgeG_v]; simp [isEdge])⟩
    · exact ⟨fl_tup (at3 (atom_int _) (atom_int _) atom_h), .inl (by rw [edgeG_h]; simp [isEdge, inH])⟩
    · exact ⟨fl_tup (at3 (atom_int _) (atom_int _) atom_v), .inl (by rw [edgeG_v]; simp [isEdge, inH])⟩
    · refine ⟨fl_tup fun z hz => ?_, .inl rfl⟩
      simp only [List.mem_cons, List.not_mem_nil, or_false] at hz
      rcases hz with rfl | rfl <;> exact atom_int _
    · refine ⟨fl_tup (at3 (atom_int _) (atom_int _) (atom_str _ ok_plus)), .inl ?_⟩
      show (in2 _ _ _ _ && (if PyData.eqv (.str "+") (.str "-") = true then _ else PyData.eqv (.str "+") (.str "|") && _)) = false
      rw [eqv_ph, eqv_pv]
      simp
    · exact ⟨fl_tup (at3 (atom_bl _) (atom_int _) atom_h), .inl rfl⟩
  · simp only [List.mem_cons, List.not_mem_nil, or_false] at hd
    rcases hd with rfl | rfl | rfl | rfl | rfl
    · exact ⟨fl_atom atom_non (fun _ z => nomatch z), .inl rfl⟩
    · exact ⟨fl_atom (atom_int _) (fun _ z => nomatch z), .inl rfl⟩
    · exact ⟨fl_tup (at3 (atom_int _) (atom_int _) atom_h), .inl (by rw [edgeG_h]; simp [isEdge, inH]; omega)⟩
    · refine ⟨fl_tup (at3 (atom_int _) (atom_int _) (atom_int _)), .inl ?_⟩
      show (in2 _ _ _ _ && (if PyData.eqv (.int 5) (.str "-") = true then _ else PyData.eqv (.int 5) (.str "|") && _)) = false
      simp [PyData.eqv]
    · exact ⟨fl_lst (at3 (atom_int _) (atom_int _) atom_h), .inl rfl⟩
  · obtain ⟨e, he, rfl⟩ := List.mem_map.mp hd
    refine ⟨fl_edge e, .inr ?_⟩
    rw [any_edge]
    refine decide_eq_true (List.mem_of_mem_take (i := min k 1) ?_)
    rw [List.take_take, Nat.min_eq_left (by omega)]
    exact he
theorem drOk_at {d : PyData} (h : ∀ a b s, d ≠ .tuple [a, b, s]) (hn : NoDict d) : DrOk d := ⟨hn, fun a b s e => absurd e (h a b s)⟩
theorem drOk_3 {a b s : PyData} (ha : NoDict a) (hb : NoDict b) (hs : FlatS s) : DrOk (.tuple [a, b, s]) := ⟨fun _ z => (nomatch z), fun a' b' s' e => by
  cases e
  exact ⟨ha, hb, hs⟩⟩
theorem doorG_lit {a b : Int} {x : Str} {w : Sg} (hx : PyData.str x = sg w) (hw : Way w) : doorG (.tuple [.int a, .int b, .str x]) = some (edgeFrom a b w) := by
  rw [hx]
  show Option.map _ (wayOf (sg w)) = _
  rw [wayOf_sg hw]
  rfl
theorem wayOf_x : wayOf (.str "x") = none := by decide +kernel
theorem oddD_ok {h : Hall} (o : HallOk h) {F : Int} (hF : 6 ≤ F) {k : Nat} {d : PyData} (hd : d ∈ oddD h.rows h.cols F (h.doors.take (min k 1))) : DrOk d ∧ (edgeG h.rows h.cols (optE (doorG d)) = false ∨ ((((h.doors.take k).map ef).map edgeD).any fun z => PyData.eqv z (optE (doorG d))) = true) := by
  have hr := o.rows
  have hc := o.cols
  have ni : ∀ i : Int, NoDict (.int i) := fun i _ z => nomatch z
  unfold oddD at hd
  rw [List.mem_append, List.mem_append] at hd
  rcases hd with (hd | hd) | hd
  · simp only [List.mem_cons, List.not_mem_nil, or_false] at hd
    rcases hd with rfl | rfl | rfl | rfl | rfl | rfl | rfl | rfl
    · refine ⟨drOk_3 (ni _) (ni _) (.inr ⟨_, rfl⟩), .inl ?_⟩
      rw [doorG_lit lit_n (.inr (.inl rfl))]
      exact edgeG_edge.trans (by simp [edgeFrom, isEdge, inH])
    · refine ⟨drOk_3 (ni _) (ni _) (.inr ⟨_, rfl⟩), .inl ?_⟩
      rw [doorG_lit lit_e (.inl rfl)]
      exact edgeG_edge.trans (by simp [edgeFrom, isEdge, inH])
    · refine ⟨drOk_3 (ni _) (ni _) (.inr ⟨_, rfl⟩), .inl ?_⟩
      rw [doorG_lit lit_s (.inr (.inr (.inl rfl)))]
      exact edgeG_edge.trans (by simp [edgeFrom, isEdge, inH])
    · refine ⟨drOk_3 (ni _) (ni _) (.inr ⟨_, rfl⟩), .inl ?_⟩
      rw [doorG_lit lit_w (.inr (.inr (.inr rfl)))]
      exact edgeG_edge.trans (by simp [edgeFrom, isEdge, inH])
    · refine ⟨drOk_3 (ni _) (ni _) (.inr ⟨_, rfl⟩), .inl ?_⟩
      rw [doorG_lit lit_n (.inr (.inl rfl))]
      exact edgeG_edge.trans (by simp [edgeFrom, isEdge, inH])
    · exact ⟨drOk_at (fun _ _ _ z => nomatch z) (fun _ z => nomatch z), .inl rfl⟩
    · refine ⟨drOk_3 (ni _) (ni _) (.inr ⟨_, rfl⟩), .inl ?_⟩
      show edgeG h.rows h.cols (optE ((wayOf (.str "x")).map fun w => edgeFrom 1 1 w)) = false
      rw [wayOf_x]
      rfl
    · exact ⟨drOk_3 (ni _) (ni _) (.inl ⟨_, rfl⟩), .inl rfl⟩
  · simp only [List.mem_cons, List.not_mem_nil, or_false] at hd
    rcases hd with rfl | rfl | rfl | rfl | rfl
    · refine ⟨drOk_3 (ni _) (ni _) (.inr ⟨_, rfl⟩), .inl ?_⟩
      rw [doorG_lit lit_s (.inr (.inr (.inl rfl)))]
      exact edgeG_edge.trans (by simp [edgeFrom, isEdge, inH])
    · refine ⟨drOk_3 (ni _) (ni _) (.inr ⟨_, rfl⟩), .inl ?_⟩
      rw [doorG_lit lit_n (.inr (.inl rfl))]
      exact edgeG_edge.trans (by simp [edgeFrom, isEdge, inH])
    · exact ⟨drOk_3 (fun _ z => nomatch z) (ni _) (.inr ⟨_, rfl⟩), .inl rfl⟩
    · exact ⟨drOk_at (fun _ _ _ z => nomatch z) (fun _ z => nomatch z), .inl rfl⟩
    · exact ⟨drOk_at (fun _ _ _ z => nomatch z) (fun _ z => nomatch z), .inl rfl⟩
  · obtain ⟨e, he, rfl⟩ := List.mem_map.mp hd
    have hm : e ∈ h.doors.take k := by
      refine List.mem_of_mem_take (i := min k 1) ?_
      rw [List.take_take, Nat.min_eq_left (by omega)]
      exact he
    refine ⟨drOk_edge e, .inr ?_⟩
    rw [doorG_edge (o.ways e (List.mem_of_mem_take hm))]
    show ((((h.doors.take k).map ef).map edgeD).any fun z => PyData.eqv z (edgeD (ef e))) = true
    rw [any_edge]
    exact decide_eq_true (List.mem_map_of_mem hm)
/-! the halls -/
structure BadH (d : PyData) (part num : Nat) : Prop where
  h : HlOk d
  c : ∀ CH, chkHallG CH d = some (exH CH part num)
  p : part < 4
  n : num < 30
theorem four_ok {h : Hall} (o : HallOk h) (CH : Addr) (w dd : PyData) : chkHallG CH (.tuple [.int h.rows, .int h.cols, w, dd]) = (match w with
      | .tuple ws => (chkEdgesG CH h.rows h.cols 2 ws 24 []).or (chkDoorsG CH h.rows h.cols ws dd)
      | _ => some (exH CH (2 : Nat) (0 : Nat))) := by
  have h1 : sideG (.int h.rows) = true := decide_eq_true o.rows
  have h2 : sideG (.int h.cols) = true := decide_eq_true o.cols
  show chkFourG CH _ _ _ _ = _
  unfold chkFourG
  rw [if_pos h1, if_pos h2]
  rfl
theorem bad_wall {h : Hall} (o : HallOk h) {F : Int} (hF : 6 ≤ F) {k : Nat} (hk : k ≤ h.walls.length) {d : PyData} (hd : d ∈ oddW h.rows h.cols F (h.walls.take (min k 1))) :
    BadH (.tuple [.int h.rows, .int h.cols, .tuple ((h.walls.map edgeD).take k ++ [d] ++ (h.walls.map edgeD).drop k), .int 5]) 2 k := by
  obtain ⟨f1, f2⟩ := oddW_ok o hF hd
  have nw := o.nwalls
  refine ⟨⟨(fun _ z => nomatch z), fun r c w dd e => ?_⟩, fun CH => ?_, by decide, by omega⟩
  · cases e
    refine ⟨(fun _ z => nomatch z), (fun _ z => nomatch z), (fun _ z => nomatch z), (fun _ z => nomatch z), fun ws e => ?_, fun ds e => nomatch e⟩
    cases e
    refine esOk_of fun e he => ?_
    rw [List.mem_append, List.mem_append] at he
    rcases he with (he | he) | he
    · obtain ⟨e, _, rfl⟩ := List.mem_map.mp (List.mem_of_mem_take he)
      exact fl_edge e
    · rw [List.mem_singleton.mp he]
      exact f1
    · obtain ⟨e, _, rfl⟩ := List.mem_map.mp (List.mem_of_mem_drop he)
      exact fl_edge e
  · rw [four_ok o]
    have e : (h.walls.map edgeD).take k ++ [d] ++ (h.walls.map edgeD).drop k = (h.walls.take k).map edgeD ++ d :: (h.walls.map edgeD).drop k := by
      rw [List.map_take, List.append_assoc]
      rfl
    show Option.or (chkEdgesG CH h.rows h.cols 2 _ 24 []) _ = _
    rw [e]
    have hl : (h.walls.take k).length = k := by rw [List.length_take]; omega
    have := chk_odd' (CH := CH) (h := h) (part := 2) (most := 24) (A := h.walls.take k) (B := (h.walls.map edgeD).drop k) (odd := d) (tk := []) (fun e he => o.walls e (List.mem_of_mem_take he)) (o.nodupW.sublist (List.take_sublist _ _)) (fun _ _ z => nomatch z) (by omega) f2
    rw [hl] at this
    show Option.or (chkEdgesG CH h.rows h.cols 2 _ 24 (([] : List Edge).map edgeD)) _ = _
    rw [this]
    rfl
theorem chk_walls {h : Hall} (o : HallOk h) (CH : Addr) : chkEdgesG CH h.rows h.cols 2 (h.walls.map edgeD) 24 [] = none := chk_all (CH := CH) (h := h) (part := 2) (tk := []) o.walls o.nodupW (fun _ _ z => nomatch z) o.nwalls
theorem edges_ok (ws : List Edge) : EsOk (ws.map edgeD) := esOk_of fun e he => by
  obtain ⟨e, _, rfl⟩ := List.mem_map.mp he
  exact fl_edge e
theorem bad_door {h : Hall} (o : HallOk h) {F : Int} (hF : 6 ≤ F) {k : Nat} (hk : k ≤ h.doors.length) {d : PyData} (hd : d ∈ oddD h.rows h.cols F (h.doors.take (min k 1))) :
    BadH (.tuple [.int h.rows, .int h.cols, .tuple (h.walls.map edgeD), .tuple ((h.doors.map edgeD).take k ++ [d] ++ (h.doors.map edgeD).drop k)]) 3 k := by
  obtain ⟨f1, f2⟩ := oddD_ok o hF hd
  have nd := o.ndoors
  refine ⟨⟨(fun _ z => nomatch z), fun r c w dd e => ?_⟩, fun CH => ?_, by decide, by omega⟩
  · cases e
    refine ⟨(fun _ z => nomatch z), (fun _ z => nomatch z), (fun _ z => nomatch z), (fun _ z => nomatch z), fun ws e => ?_, fun ds e => ?_⟩
    · cases e
      exact edges_ok _
    · cases e
      refine ⟨by simp only [List.length_append, List.length_take, List.length_drop, List.length_map, List.length_singleton]; omega, fun e he => ?_⟩
      rw [List.mem_append, List.mem_append] at he
      rcases he with (he | he) | he
      · obtain ⟨e, _, rfl⟩ := List.mem_map.mp (List.mem_of_mem_take he)
        exact drOk_edge e
      · rw [List.mem_singleton.mp he]
        exact f1
      · obtain ⟨e, _, rfl⟩ := List.mem_map.mp (List.mem_of_mem_drop he)
        exact drOk_edge e
  · rw [four_ok o]
    show Option.or (chkEdgesG CH h.rows h.cols 2 (h.walls.map edgeD) 24 []) _ = _
    rw [chk_walls o CH]
    show chkEdgesG CH h.rows h.cols 3 (doorsG _) 6 (h.walls.map edgeD) = _
    have e : doorsG ((h.doors.map edgeD).take k ++ [d] ++ (h.doors.map edgeD).drop k) = ((h.doors.take k).map ef).map edgeD ++ optE (doorG d) :: doorsG ((h.doors.map edgeD).drop k) := by
      rw [← doorsG_map (ds := h.doors.take k) (fun e he => o.ways e (List.mem_of_mem_take he)), List.map_take]
      unfold doorsG
      rw [List.map_append, List.map_append, List.append_assoc]
      rfl
    rw [e]
    have hl : ((h.doors.take k).map ef).length = k := by rw [List.length_map, List.length_take]; omega
    have := chk_odd' (CH := CH) (h := h) (part := 3) (most := 6) (A := (h.doors.take k).map ef) (B := doorsG ((h.doors.map edgeD).drop k)) (odd := optE (doorG d)) (tk := h.walls) (fun e he => ?_) ?_ (fun e he => ?_) (by omega) f2
    · rw [hl] at this
      exact this
    · obtain ⟨x, hx, rfl⟩ := List.mem_map.mp he
      exact o.doors x (List.mem_of_mem_take hx)
    · exact o.nodupD.sublist ((List.take_sublist _ _).map _)
    · obtain ⟨x, hx, rfl⟩ := List.mem_map.mp he
      exact o.apart x (List.mem_of_mem_take hx)
def sidesO (F : Int) : List PyData := [.int 0, .int 6, .int F, .bool true, .none, .str "3"]
theorem sidesO_ok {F : Int} (hF : 6 ≤ F) {s : PyData} (h : s ∈ sidesO F) : NoDict s ∧ sideG s = false := by
  unfold sidesO at h
  simp only [List.mem_cons, List.not_mem_nil, or_false] at h
  rcases h with rfl | rfl | rfl | rfl | rfl | rfl
  · exact ⟨(fun _ z => nomatch z), rfl⟩
  · exact ⟨(fun _ z => nomatch z), rfl⟩
  · exact ⟨(fun _ z => nomatch z), decide_eq_false (by omega)⟩
  · exact ⟨(fun _ z => nomatch z), rfl⟩
  · exact ⟨(fun _ z => nomatch z), rfl⟩
  · exact ⟨(fun _ z => nomatch z), rfl⟩
theorem bad_rows {C : Int} {s : PyData} (h : NoDict s ∧ sideG s = false) : BadH (.tuple [s, .int C, .int 5, .int 5]) 0 0 := by
  refine ⟨⟨(fun _ z => nomatch z), fun r c w dd e => ?_⟩, fun CH => ?_, by decide, by omega⟩
  · cases e
    exact ⟨h.1, (fun _ z => nomatch z), (fun _ z => nomatch z), (fun _ z => nomatch z), fun ws e => (nomatch e), fun ds e => nomatch e⟩
  · show chkFourG CH s (.int C) (.int 5) (.int 5) = _
    unfold chkFourG
    rw [if_neg (by rw [h.2]; decide)]
theorem bad_cols {h : Hall} (o : HallOk h) {s : PyData} (hs : NoDict s ∧ sideG s = false) : BadH (.tuple [.int h.rows, s, .int 5, .int 5]) 1 0 := by
  have h1 : sideG (.int h.rows) = true := decide_eq_true o.rows
  refine ⟨⟨(fun _ z => nomatch z), fun r c w dd e => ?_⟩, fun CH => ?_, by decide, by omega⟩
  · cases e
    exact ⟨(fun _ z => nomatch z), hs.1, (fun _ z => nomatch z), (fun _ z => nomatch z), fun ws e => (nomatch e), fun ds e => nomatch e⟩
  · show chkFourG CH (.int h.rows) s (.int 5) (.int 5) = _
    unfold chkFourG
    rw [if_pos h1, if_neg (by rw [hs.2]; decide)]
theorem bad_form {d : PyData} (hn : NoDict d) (h : ∀ r c w dd, d ≠ .tuple [r, c, w, dd]) : BadH d 0 0 := by
  refine ⟨⟨hn, fun r c w dd e => absurd e (h r c w dd)⟩, fun CH => ?_, by decide, by omega⟩
  unfold chkHallG
  split
  · rename_i r c w dd
    exact absurd rfl (h r c w dd)
  · rfl
end Pd
/-! SemKB -/
set_option Elab.async false
set_option linter.all false
set_option maxRecDepth 100000
set_option maxHeartbeats 4000000
namespace Pd
variable [Pd.Wd]
open PySem PySem.Spec PyProof.Rows L2 PySem.W
local macro_rules | `(tactic| walk_at "ed") => `(tactic| repeat' (first
  | with_reducible (first
    | exact ed_int | exact ed_str | exact ed_bl | exact ed_non
    | exact ea_nil | refine' ea_cons ?_ ?_
    | refine' ed_isi ?_ ?_ | refine' ed_isi2 ?_ ?_ ?_
    | refine' ed_andV ?_ (fun _ => ?_) | refine' ed_orV ?_ (fun _ => ?_) | refine' ed_notV ?_
    | refine' ed_chain ?_ ?_ ?_ (fun _ => ⟨?_, ?_⟩)
    | refine' ed_tup ?_ ?_ | refine' ed_lst ?_ ?_
    | refine' et_not ?_ | refine' et_and ?_ (fun _ => ?_) | refine' et_or ?_ (fun _ => ?_) | exact et_yes
    | refine' et_test ?_ | refine' et_B ?_
    | refine' ed_op ?_ ?_ ?_
    | refine' ed_cb ?_ ?_)
  | exact ed_var rfl
  | exact kit_tt | exact kit_ii | exact kit_ib | exact kit_ll | exact kit_lt | exact kit_tl
  | exact r2_addI | exact r2_subI | exact r2_lt | exact r2_le | exact r2_gt | exact r2_ge | exact r2_isN | exact r2_notN
  | exact rc_lenT | exact rc_lenL | exact rc_intB | exact rc_tupL
  | with_reducible (first | refine' r2_eq ?_ ?_ | refine' r2_ne ?_ ?_)
  | exact sh_int _ | exact sh_sg _ | exact sh_cell _ | exact sh_edge _ | exact sh_pair _ | exact sh_str _ (by decide +kernel)
  | exact r2_ixT rfl | exact r2_ixL rfl
  | refine' ed_tup ?_ ?_
  | (show List.length _ ≤ 100000; simp; done)))
/-! ### `_law_odd` -/
def P_odd (ds : List PyData) : Prop := ∃ h : Hall, HallOk h ∧ ds = [hallD h]
def R_odd (ds : List PyData) (d : PyData) : Prop := ∃ (bad : PyData) (part num : Nat), d = .tuple [bad, .int (part : Nat), .int (num : Nat)] ∧ BadH bad part num
section
variable {K : PySem.W.Frag} {c : Cfg} {A : Nat → Addr} {σ : L2.St} {B H : Hp} {ρ : Rho} {os : OS} {te tm : TE} {P : PyData → Prop} {vs : List Nat} {D : Ends}
/-- g = e, g of several names -/
theorem go_gdK {g : TG} {ρ1 : PyData → Rho} (o : Iv c A σ B H ρ []) (h : EI c te ρ [] P) (hg : ∀ d, P d → GD g ρ d (ρ1 d) vs) (hr : c.r ∉ vs) (k : ∀ d, P d → ∀ A σ B H, Iv c A σ B H (ρ1 d) [] → D.nx σ H) : tAsg te g D σ H := by
  refine h A σ B H o _ fun v d B1 H1 o1 ex dv hd => ?_
  refine hg d hd σ B1 H1 v o1.d.t o1.e dv _ fun σ2 ev2 w2 => k d hd A σ2 B1 H1 ⟨o1.d, o1.g, ev2, ?_, fun p hp => (by cases hp), fun p hp => (by cases hp)⟩
  have e := congrArg (fun l : L2.St => l[c.r]?) w2
  simp only [wipe_get] at e
  rw [if_neg (fun z => hr z.1), if_neg (fun z => hr z.1)] at e
  rw [e]
  exact o1.s0
/-- one of a list, drawn -/
theorem ei_pick {xs : List PyData} (hr : CK c K) (h : ED te ρ (.list xs)) (hm : ED tm ρ (.int (xs.length : Nat))) (h1 : 1 ≤ xs.length) (h2 : xs.length ≤ 1000) : EI c (tOp (rIx K) te (tCallD (spW K P_taken R_taken) (tCons (tVar 0) (tCons tm tNil)))) ρ os (fun d => d ∈ xs) := by
  refine ei_op (ei_pure h) (fun _ _ => ei_drawE (K := K) hr hm (by omega) (by omega)) ?_
  rintro a b rfl ⟨n, rfl, hn⟩
  have hn' : n < xs.length := by omega
  exact ⟨_, r2_ixL (atI_nat (List.getElem?_eq_getElem hn')), List.getElem_mem hn'⟩
theorem ti_zero {m : Int} (hr : CK c K) (h1 : 1 ≤ m) (h2 : m ≤ 1000) : TI' c (tTest (tOp (rEqD K) (tCallD (spW K P_taken R_taken) (tCons (tVar 0) (tCons (tC (.int m)) tNil))) (tC (.int 0)))) ρ os (fun _ => True) := by
  refine ti_test ((ei_op (P := fun d => ∃ b, d = .bool b ∧ True) (ei_drawE (K := K) hr ed_int h1 h2) (fun _ _ => ei_pure (d := .int 0) ed_int) ?_))
  rintro a b ⟨n, rfl, hn⟩ rfl
  exact ⟨_, r2_eq (sh_int _) (sh_int _), _, rfl, trivial⟩
theorem ed_cutT {ds : List PyData} {k : Nat} (h : ED te ρ (.tuple ds)) (hk : ED tm ρ (.int (k : Nat))) (hl : k ≤ ds.length) : ED (tSl (rSlX K) te tNoPart (tPart tm)) ρ (.tuple (ds.take k)) := by
  refine ED.is (ed_slT h eo_none (eo_some hk)) ?_
  rw [cut_take _ _ hl]
theorem ed_cutF {ds : List PyData} {k : Nat} (h : ED te ρ (.tuple ds)) (hk : ED tm ρ (.int (k : Nat))) : ED (tSl (rSlX K) te (tPart tm) tNoPart) ρ (.tuple (ds.drop k)) := by
  refine ED.is (ed_slT h (eo_some hk) eo_none) ?_
  rw [cut_dropG]
/-- x[:k] + (y,) + x[k:] -/
theorem ei_put {ds : List PyData} {k : Nat} {tk ty : TE} (h : ED te ρ (.tuple ds)) (hk : ED tk ρ (.int (k : Nat))) (hl : k ≤ ds.length) (hz : ds.length ≤ 1000) (hy : EI c ty ρ os P) :
    EI c (tOp (rAddX K) (tOp (rAddX K) (tSl (rSlX K) te tNoPart (tPart tk)) (tTup (tCons ty tNil))) (tSl (rSlX K) te (tPart tk) tNoPart)) ρ os (fun d => ∃ y, d = .tuple (ds.take k ++ [y] ++ ds.drop k) ∧ P y) := by
  refine ei_op (Pa := fun d => ∃ y, d = .tuple (ds.take k ++ [y]) ∧ P y) (Pb := fun _ d => d = .tuple (ds.drop k)) (ei_op (Pa := fun d => d = .tuple (ds.take k)) (Pb := fun _ d => ∃ y, d = .tuple [y] ∧ P y) (ei_pure (ed_cutT h hk hl)) (fun _ _ => (ei_tup (ai_cons hy fun _ _ => ai_nil) ?_).imp ?_) ?_) (fun _ _ => ei_pure (ed_cutF h hk)) ?_
  · rintro ds ⟨d, es, rfl, _, rfl⟩
    simp
  · rintro d ⟨ds, rfl, d, es, rfl, hd, rfl⟩
    exact ⟨d, rfl, hd⟩
  · rintro a b rfl ⟨y, rfl, hy⟩
    exact ⟨_, r2_catT (by simp only [List.length_take, List.length_singleton]; omega), y, rfl, hy⟩
  · rintro a b ⟨y, rfl, hy⟩ rfl
    exact ⟨_, r2_catT (by simp only [List.length_append, List.length_take, List.length_drop, List.length_singleton]; omega), y, rfl, hy⟩
theorem min1 (k : Nat) : (if (1 : Int) < (k : Nat) then (1 : Int) else ((k : Nat) : Int)) = ((min k 1 : Nat) : Int) := by
  by_cases h : (1 : Int) < (k : Nat)
  · rw [if_pos h, Nat.min_eq_right (by omega)]
    rfl
  · rw [if_neg h, Nat.min_eq_left (by omega)]
theorem ed_pow9 : ED (tOp rPowI (tC (.int 10)) (tC (.int 9))) ρ (.int 1000000000) := ED.is (ed_op ed_int ed_int (r2_pow ⟨by decide, by decide, by decide⟩)) (congrArg PyData.int (by decide +kernel))
theorem rp_L_odd {vs : List V} {H : Hp} {Q : VK} {E : XK} (h : spW K P_odd R_odd vs H Q E) : rd_L_odd K (spW K P_taken R_taken) { nx := fun _ H' => Q .non H', rt := Q }
    (L2.start ["_law_row", "_law_hall_here", "_law_high", "_law_wide", "_law_shuts", "_law_hung", "_law_far_off", "_law_side", "_law_k", "_law_odd_here", "_law_shut_here"] vs) H := by
  obtain ⟨c, ds, hr, ⟨h, ho, rfl⟩, o, q⟩ := iv_start h "_law_row" ["_law_hall_here", "_law_high", "_law_wide", "_law_shuts", "_law_hung", "_law_far_off", "_law_side", "_law_k", "_law_odd_here", "_law_shut_here"] (fun ds ⟨h, _, e⟩ => by rw [e]; simp)
  generalize L2.start ["_law_row", "_law_hall_here", "_law_high", "_law_wide", "_law_shuts", "_law_hung", "_law_far_off", "_law_side", "_law_k", "_law_odd_here", "_law_shut_here"] vs = σ at o ⊢
  have o : Iv c (fun _ => 0) σ c.B1 H [none, some (hallD h), none, none, none, none, none, none, none, none, none] [] := o _
  have hrn : ∀ i : Nat, 0 < i → i ≠ c.r := fun i hi => by rw [hr.1]; omega
  have nw := ho.nwalls
  have nd := ho.ndoors
  have hrow := ho.rows
  have hcol := ho.cols
  unfold rd_L_odd
  refine go_seq ?_
  refine go_gdK (P := (· = hallD h)) (vs := [2, 3, 4, 5]) (ρ1 := fun _ => [none, some (hallD h), some (.int h.rows), some (.int h.cols), some (.tuple (h.walls.map edgeD)), some (.tuple (h.doors.map edgeD)), none, none, none, none, none]) o (ei_pure (ed_var rfl)) (fun d e => ?_) (by rw [hr.1]; decide) ?_
  · subst e
    exact gd_tup (gds_cons (gd_name (by simp)) (gds_cons (gd_name (by simp)) (gds_cons (gd_name (by simp)) (gds_cons (gd_name (by simp)) gds_nil)))) rfl
  intro d _ A σ B H o
  dsimp only at o ⊢
  refine go_seq ?_
  refine go_asg (P := fun d => ∃ F : Int, d = .int F ∧ 6 ≤ F) o (ei_op (Pa := (· = .int 6)) (ei_pure ed_int) (fun _ _ => ei_drawG (K := K) (m := 1000000000) hr ed_pow9 (by decide) (by decide)) ?_) (hrn _ (by decide)) (by simp) ?_
  · rintro a b rfl ⟨n, rfl, _⟩
    exact ⟨_, r2_addI, _, rfl, by omega⟩
  rintro d ⟨F, rfl, hF⟩ σ B H o
  have o : Iv c A σ B H [none, some (hallD h), some (.int h.rows), some (.int h.cols), some (.tuple (h.walls.map edgeD)), some (.tuple (h.doors.map edgeD)), some (.int F), none, none, none, none] [] := o
  dsimp only
  refine go_seq ?_
  refine go_if (P := fun _ => True) o (ti_zero hr (by decide) (by decide)) (fun _ B H o => ?_) (fun _ B H o => ?_)
  · -- a side
    refine go_seq ?_
    refine go_asg (P := fun d => d ∈ sidesO F) o (ei_pick (xs := sidesO F) hr (ed_lst (ea_cons ed_int (ea_cons ed_int (ea_cons (ed_var rfl) (ea_cons ed_bl (ea_cons ed_non (ea_cons ed_str ea_nil)))))) (by simp [sidesO])) ed_int (by simp [sidesO]) (by simp [sidesO])) (hrn _ (by decide)) (by simp) ?_
    intro s hs σ B H o
    have o : Iv c A σ B H [none, some (hallD h), some (.int h.rows), some (.int h.cols), some (.tuple (h.walls.map edgeD)), some (.tuple (h.doors.map edgeD)), some (.int F), some s, none, none, none] [] := o
    dsimp only
    refine go_ret (P := fun d => d ∈ [PyData.tuple [.tuple [s, .int h.cols, .int 5, .int 5], .int 0, .int 0], .tuple [.tuple [.int h.rows, s, .int 5, .int 5], .int 1, .int 0]]) o (ei_pick hr (ed_lst (ea_cons (ed_tup (ea_cons (ed_tup (ea_cons (ed_var rfl) (ea_cons (ed_var rfl) (ea_cons ed_int (ea_cons ed_int ea_nil)))) (by simp)) (ea_cons ed_int (ea_cons ed_int ea_nil))) (by simp)) (ea_cons (ed_tup (ea_cons (ed_tup (ea_cons (ed_var rfl) (ea_cons (ed_var rfl) (ea_cons ed_int (ea_cons ed_int ea_nil)))) (by simp)) (ea_cons ed_int (ea_cons ed_int ea_nil))) (by simp)) ea_nil)) (by simp)) ed_int (by simp) (by simp)) fun v d B' H' o' dv hd => ?_
    refine q _ _ v d B' H' _ _ ?_ o' dv
    simp only [List.mem_cons, List.not_mem_nil, or_false] at hd
    rcases hd with rfl | rfl
    · exact ⟨_, 0, 0, rfl, bad_rows (sidesO_ok hF hs)⟩
    · exact ⟨_, 1, 0, rfl, bad_cols ho (sidesO_ok hF hs)⟩
  show tSeq _ _ _ σ H
  refine go_seq ?_
  refine go_if (P := fun _ => True) o (ti_zero hr (by decide) (by decide)) (fun _ B H o => ?_) (fun _ B H o => ?_)
  · -- a wall
    refine go_seq ?_
    refine go_asg (P := fun d => ∃ n : Nat, d = .int (n : Nat) ∧ (n : Int) < (h.walls.length : Nat) + 1) o (ei_drawE (K := K) hr (ED.is (ed_op (ed_cb (ea_cons (ed_var rfl) ea_nil) rc_lenT) ed_int r2_addI) (by rw [List.length_map])) (by omega) (by omega)) (hrn _ (by decide)) (by simp) ?_
    rintro d ⟨k, rfl, hk⟩ σ B H o
    have o : Iv c A σ B H [none, some (hallD h), some (.int h.rows), some (.int h.cols), some (.tuple (h.walls.map edgeD)), some (.tuple (h.doors.map edgeD)), some (.int F), none, some (.int (k : Nat)), none, none] [] := o
    dsimp only
    refine go_seq ?_
    refine go_asg (P := (· = .list [.tuple [.int 0, .int 0, .str "-"], .tuple [.int 0, .int 0, .str "|"], .tuple [.int h.rows, .int 0, .str "-"], .tuple [.int 0, .int h.cols, .str "|"], .tuple [.int 1, .int 1], .tuple [.int 1, .int 0, .str "+"], .tuple [.bool true, .int 0, .str "-"]])) o (ei_pure (by walk_at "ed")) (hrn _ (by decide)) (by simp) ?_
    rintro d rfl σ B H o
    have o : Iv c A σ B H [none, some (hallD h), some (.int h.rows), some (.int h.cols), some (.tuple (h.walls.map edgeD)), some (.tuple (h.doors.map edgeD)), some (.int F), none, some (.int (k : Nat)), some (.list [.tuple [.int 0, .int 0, .str "-"], .tuple [.int 0, .int 0, .str "|"], .tuple [.int h.rows, .int 0, .str "-"], .tuple [.int 0, .int h.cols, .str "|"], .tuple [.int 1, .int 1], .tuple [.int 1, .int 0, .str "+"], .tuple [.bool true, .int 0, .str "-"]]), none] [] := o
    dsimp only
    refine go_seq ?_
    refine go_asg (P := (· = .list (oddW h.rows h.cols F (h.walls.take (min k 1))))) o (ei_pure ?_) (hrn _ (by decide)) (by simp) ?_
    · refine ed_op (ed_op (ed_var rfl) (d := .list [.tuple [.int 0, .int 0, .str "-"], .tuple [.int 0, .int 0, .str "|"], .tuple [.int h.rows, .int 0, .str "-"], .tuple [.int 0, .int h.cols, .str "|"], .tuple [.int 1, .int 1], .tuple [.int 1, .int 0, .str "+"], .tuple [.bool true, .int 0, .str "-"]]) (e := .list [.none, .int 5, .tuple [.int F, .int 0, .str "-"], .tuple [.int 1, .int 0, .int 5], .list [.int 1, .int 0, .str "-"]]) (by walk_at "ed") (r2_catL (by simp))) (e := .list ((h.walls.take (min k 1)).map edgeD)) ?_ (r2_catL (by simp only [List.length_append, List.length_cons, List.length_nil, List.length_map, List.length_take]; omega))
      refine ed_lcM (h.walls.take (min k 1)) edgeD edgeD (ie_tup ?_) (by rw [List.length_take]; omega) fun e _ => ⟨_, gd_name (by simp), ed_var rfl⟩
      refine ED.is (ed_cutT (k := min k 1) (ed_var rfl) (ED.is (ed_cb (ea_cons (ed_var rfl) (ea_cons ed_int ea_nil)) rc_min2) (by rw [min1])) (by rw [List.length_map]; omega)) ?_
      rw [List.map_take]
    rintro d rfl σ B H o
    have o : Iv c A σ B H [none, some (hallD h), some (.int h.rows), some (.int h.cols), some (.tuple (h.walls.map edgeD)), some (.tuple (h.doors.map edgeD)), some (.int F), none, some (.int (k : Nat)), some (.list (oddW h.rows h.cols F (h.walls.take (min k 1)))), none] [] := o
    have hlen : (oddW h.rows h.cols F (h.walls.take (min k 1))).length = 12 + (min k (min 1 h.walls.length)) := by
      simp only [oddW, List.length_append, List.length_cons, List.length_nil, List.length_map, List.length_take]
      omega
    refine go_ret (P := fun d => ∃ y, d = .tuple [.tuple [.int h.rows, .int h.cols, .tuple ((h.walls.map edgeD).take k ++ [y] ++ (h.walls.map edgeD).drop k), .int 5], .int 2, .int (k : Nat)] ∧ y ∈ oddW h.rows h.cols F (h.walls.take (min k 1))) o ((ei_tup (ai_cons (ei_tup (ai_cons (ei_pure (ed_var (d := .int h.rows) rfl)) fun _ _ => ai_cons (ei_pure (ed_var (d := .int h.cols) rfl)) fun _ _ => ai_cons (ei_put (ds := h.walls.map edgeD) (k := k) (ed_var rfl) (ed_var rfl) (by rw [List.length_map]; omega) (by rw [List.length_map]; omega) (ei_pick (xs := oddW h.rows h.cols F (h.walls.take (min k 1))) hr (ed_var rfl) (ed_cb (ea_cons (ed_var rfl) ea_nil) rc_lenL) (by omega) (by omega))) fun _ _ => ai_cons (ei_pure (d := .int 5) ed_int) fun _ _ => ai_nil) ?_) fun _ _ => ai_cons (ei_pure (d := .int 2) ed_int) fun _ _ => ai_cons (ei_pure (ed_var (d := .int (k : Nat)) rfl)) fun _ _ => ai_nil) ?_).imp ?_) fun v d B' H' o' dv hd => ?_
    · rintro ds ⟨d, es, rfl, _, d, es, rfl, _, d, es, rfl, _, d, es, rfl, _, rfl⟩
      simp
    · rintro ds ⟨d, es, rfl, _, d, es, rfl, _, d, es, rfl, _, rfl⟩
      simp
    · rintro d ⟨ds, rfl, d, es, rfl, ⟨ds, rfl, d, es, rfl, rfl, d, es, rfl, rfl, d, es, rfl, ⟨y, rfl, hy⟩, d, es, rfl, rfl, rfl⟩, d, es, rfl, rfl, d, es, rfl, rfl, rfl⟩
      exact ⟨y, rfl, hy⟩
    · obtain ⟨y, rfl, hy⟩ := hd
      exact q _ _ v _ B' H' _ _ ⟨_, 2, k, rfl, bad_wall ho hF (by omega) hy⟩ o' dv
  -- a door
  show tSeq _ _ _ σ H
  refine go_seq ?_
  refine go_asg (P := fun d => ∃ n : Nat, d = .int (n : Nat) ∧ (n : Int) < (h.doors.length : Nat) + 1) o (ei_drawE (K := K) hr (ED.is (ed_op (ed_cb (ea_cons (ed_var rfl) ea_nil) rc_lenT) ed_int r2_addI) (by rw [List.length_map])) (by omega) (by omega)) (hrn _ (by decide)) (by simp) ?_
  rintro d ⟨k, rfl, hk⟩ σ B H o
  have o : Iv c A σ B H [none, some (hallD h), some (.int h.rows), some (.int h.cols), some (.tuple (h.walls.map edgeD)), some (.tuple (h.doors.map edgeD)), some (.int F), none, some (.int (k : Nat)), none, none] [] := o
  dsimp only
  refine go_seq ?_
  refine go_asg (P := (· = .list [.tuple [.int 0, .int 0, .str "n"], .tuple [.int 0, .int 0, .str "e"], .tuple [.int 0, .int 0, .str "s"], .tuple [.int h.rows, .int h.cols, .str "w"], .tuple [.int h.rows, .int h.cols, .str "n"], .tuple [.int 1, .int 1], .tuple [.int 1, .int 1, .str "x"], .tuple [.int 1, .int 1, .int 0]])) o (ei_pure (by walk_at "ed")) (hrn _ (by decide)) (by simp) ?_
  rintro d rfl σ B H o
  have o : Iv c A σ B H [none, some (hallD h), some (.int h.rows), some (.int h.cols), some (.tuple (h.walls.map edgeD)), some (.tuple (h.doors.map edgeD)), some (.int F), none, some (.int (k : Nat)), some (.list [.tuple [.int 0, .int 0, .str "n"], .tuple [.int 0, .int 0, .str "e"], .tuple [.int 0, .int 0, .str "s"], .tuple [.int h.rows, .int h.cols, .str "w"], .tuple [.int h.rows, .int h.cols, .str "n"], .tuple [.int 1, .int 1], .tuple [.int 1, .int 1, .str "x"], .tuple [.int 1, .int 1, .int 0]]), none] [] := o
  dsimp only
  refine go_seq ?_
  refine go_asg (P := (· = .list (oddD h.rows h.cols F (h.doors.take (min k 1))))) o (ei_pure ?_) (hrn _ (by decide)) (by simp) ?_
  · refine ed_op (ed_op (ed_var rfl) (d := .list [.tuple [.int 0, .int 0, .str "n"], .tuple [.int 0, .int 0, .str "e"], .tuple [.int 0, .int 0, .str "s"], .tuple [.int h.rows, .int h.cols, .str "w"], .tuple [.int h.rows, .int h.cols, .str "n"], .tuple [.int 1, .int 1], .tuple [.int 1, .int 1, .str "x"], .tuple [.int 1, .int 1, .int 0]]) (e := .list [.tuple [.int (0 - 1), .int 0, .str "s"], .tuple [.int F, .int 0, .str "n"], .tuple [.bool true, .int 1, .str "n"], .none, .list [.int 1, .int 1, .str "n"]]) (by walk_at "ed") (r2_catL (by simp))) (e := .list ((h.doors.take (min k 1)).map edgeD)) ?_ (r2_catL (by simp only [List.length_append, List.length_cons, List.length_nil, List.length_map, List.length_take]; omega))
    refine ed_cb (ea_cons (d := .tuple ((h.doors.take (min k 1)).map edgeD)) ?_ ea_nil) rc_listT
    refine ED.is (ed_cutT (k := min k 1) (ed_var rfl) (ED.is (ed_cb (ea_cons (ed_var rfl) (ea_cons ed_int ea_nil)) rc_min2) (by rw [min1])) (by rw [List.length_map]; omega)) ?_
    rw [List.map_take]
  rintro d rfl σ B H o
  have o : Iv c A σ B H [none, some (hallD h), some (.int h.rows), some (.int h.cols), some (.tuple (h.walls.map edgeD)), some (.tuple (h.doors.map edgeD)), some (.int F), none, some (.int (k : Nat)), some (.list (oddD h.rows h.cols F (h.doors.take (min k 1)))), none] [] := o
  have hlen : (oddD h.rows h.cols F (h.doors.take (min k 1))).length = 13 + (min k (min 1 h.doors.length)) := by
    simp only [oddD, List.length_append, List.length_cons, List.length_nil, List.length_map, List.length_take]
    omega
  refine go_ret (P := fun d => ∃ y, d = .tuple [.tuple [.int h.rows, .int h.cols, .tuple (h.walls.map edgeD), .tuple ((h.doors.map edgeD).take k ++ [y] ++ (h.doors.map edgeD).drop k)], .int 3, .int (k : Nat)] ∧ y ∈ oddD h.rows h.cols F (h.doors.take (min k 1))) o ((ei_tup (ai_cons (ei_tup (ai_cons (ei_pure (ed_var (d := .int h.rows) rfl)) fun _ _ => ai_cons (ei_pure (ed_var (d := .int h.cols) rfl)) fun _ _ => ai_cons (ei_pure (ed_var (d := .tuple (h.walls.map edgeD)) rfl)) fun _ _ => ai_cons (ei_put (ds := h.doors.map edgeD) (k := k) (ed_var rfl) (ed_var rfl) (by rw [List.length_map]; omega) (by rw [List.length_map]; omega) (ei_pick (xs := oddD h.rows h.cols F (h.doors.take (min k 1))) hr (ed_var rfl) (ed_cb (ea_cons (ed_var rfl) ea_nil) rc_lenL) (by omega) (by omega))) fun _ _ => ai_nil) ?_) fun _ _ => ai_cons (ei_pure (d := .int 3) ed_int) fun _ _ => ai_cons (ei_pure (ed_var (d := .int (k : Nat)) rfl)) fun _ _ => ai_nil) ?_).imp ?_) fun v d B' H' o' dv hd => ?_
  · rintro ds ⟨d, es, rfl, _, d, es, rfl, _, d, es, rfl, _, d, es, rfl, _, rfl⟩
    simp
  · rintro ds ⟨d, es, rfl, _, d, es, rfl, _, d, es, rfl, _, rfl⟩
    simp
  · rintro d ⟨ds, rfl, d, es, rfl, ⟨ds, rfl, d, es, rfl, rfl, d, es, rfl, rfl, d, es, rfl, rfl, d, es, rfl, ⟨y, rfl, hy⟩, rfl⟩, d, es, rfl, rfl, d, es, rfl, rfl, rfl⟩
    exact ⟨y, rfl, hy⟩
  · obtain ⟨y, rfl, hy⟩ := hd
    exact q _ _ v _ B' H' _ _ ⟨_, 3, k, rfl, bad_door ho hF (by omega) hy⟩ o' dv
end
end Pd
/-! BK01 -/
set_option Elab.async false
set_option linter.all false
set_option maxRecDepth 100000
set_option maxHeartbeats 4000000
namespace Pd
variable [Pd.Wd]
open PySem PySem.Spec PyProof.Rows L2 Lmp
/-- what the lambdas of `_law_works` call -/
structure WkX (P : Program) (w : World) (K : PySem.W.Frag) (mg : Str → Option Value) (base : Heap) (CH CB : Addr) : Prop where
  walk : DefS P w K mg base (L2.CX P w) 9 "walk" p_walk (spO (RX_refG CH 2))
  may : DefS P w K mg base (L2.CX P w) 9 "may" p_may (spO (RX_refG CH 1))
  shortest : DefS P w K mg base (L2.CX P w) 9 "shortest" p_shortest (spO (RX_refG CH 2))
  gentlest : DefS P w K mg base (L2.CX P w) 9 "gentlest" p_gentlest (spO (RX_refG CH 2))
  reached : DefS P w K mg base (L2.CX P w) 9 "reached" p_reached (spO (RX_refG CH 1))
  still : DefS P w K mg base (L2.CX P w) 9 "still" p_still (spO (RX_refG CH 1))
  oneway : DefS P w K mg base (L2.CX P w) 9 "oneway" p_oneway (spO (RX_refG CH 1))
  lost : DefS P w K mg base (L2.CX P w) 9 "lost" p_lost (spO (RX_refG CH 2))
  far : DefS P w K mg base (L2.CX P w) 9 "far" p_far (spO (RX_refG CH 1))
  paper : DefS P w K mg base (L2.CX P w) 9 "paper" p_paper (spO (RX_refG CH 2))
  shows : DefS P w K mg base (L2.CX P w) 9 "shows" p_shows (spO (RX_refG CH 3))
  lifted : DefKX P w K mg base 9 "lifted" 3 "most" (.int 6) p_lifted (spO (RX_refG CH 3))
  turned : DefS P w K mg base (L2.CX P w) 9 "turned" p_turned (spO (RX_refG CH 1))
  mirrored : DefS P w K mg base (L2.CX P w) 9 "mirrored" p_mirrored (spO (RX_refG CH 1))
  written : DefS P w K mg base (L2.CX P w) 9 "written" p_written (spO (RX_refG CH 1))
  make : MakeS P w K mg base (L2.CX P w) 8 CB ["self", "hall", "cells"] (spI CB (RX_refG CH 1))
  bench : mg "Bench" = some (.ref CB)
/-- the lambda comes to this, of whatever hall is refused -/
def WkRun (P : Program) (w : World) (K : PySem.W.Frag) (mg : Str → Option Value) (base : Heap) (CH : Addr) (W : LW) : Prop := ∀ c', ∃ (N : List Str) (as : List V) (k : Nat) (t : XK → TE), LRun P w K mg base 10 (W.1 c') W.2 ["_law_hall_here"] (fun ws E H Q => t E (NdefX.startF N as ws) H Q) ∧ (N.length = k + 1 ∧ as.length = k) ∧ ∀ d e, HlOk d → chkHallG CH d = some e → ∀ (E : XK) (ρ : Rho), ρ[k]? = some (some d) → OE (t E) E ρ (.ex e)
theorem wl1 {P : Program} {w : World} {K : PySem.W.Frag} {mg : Str → Option Value} {base : Heap} {CH CB : Addr} (X : WkX P w K mg base CH CB) (z : Addr) : WkRun P w K mg base CH (wk1 z) := by
  have X_walk := X.walk
  intro c'
  refine ⟨["_law_hall_here"], [], 0, fun E => tCall (spO (RX_refG CH 2)) [] E (tCons (tVar 0) (tCons (tC (.int 5)) (tCons (tC (.int 5)) tNil))), ?_, ⟨rfl, rfl⟩, fun d e hd he E ρ hρ => ?_⟩
  · exact lrun_of (N := ["_law_hall_here"]) (fr := ["_law_hall_here"]) (k := 9) (F := (wk1 z).1 c') (t := fun _ E => tCall (spO (RX_refG CH 2)) [] E (tCons (tVar 0) (tCons (tC (.int 5)) (tCons (tC (.int 5)) tNil)))) (NdefX.nscope_by (show NdefX.nscB ["_law_hall_here"] [] ["_law_hall_here"] wS1 = true by decide +kernel)) (fun pm ctv => by rfl) (fun f A outer s H ws E hr _ => (by
    have tk : Takes (NdefX.ncx (L2.CX P w) P w K mg base ["_law_hall_here"] ((wk1 z).1 c').nf f A outer s H E) (fun cls d _ H => E cls d H) := takes_of rfl rfl rfl rfl
    exact (pe_dcallX X_walk (hr.mono (by first | decide | omega)) (passes_call tk (fun _ _ _ _ h => h)) (pa_cons (pv 0) (pa_cons pe_int (pa_cons pe_int pa_nil))))))
  · exact oe_call (ea_cons (ed_var hρ) (ea_cons ed_int (ea_cons ed_int ea_nil))) ⟨d, [.int 5, .int 5], e, rfl, rfl, hd, he, rfl⟩
theorem wl2 {P : Program} {w : World} {K : PySem.W.Frag} {mg : Str → Option Value} {base : Heap} {CH CB : Addr} (X : WkX P w K mg base CH CB) (z : Addr) : WkRun P w K mg base CH (wk2 z) := by
  have X_may := X.may
  intro c'
  refine ⟨["_law_a", "_law_hall_here"], [.int 0], 1, fun E => tCall (spO (RX_refG CH 1)) [] E (tCons (tVar 1) (tCons (tC (.int 5)) tNil)), ?_, ⟨rfl, rfl⟩, fun d e hd he E ρ hρ => ?_⟩
  · exact lrun_ofD (N := ["_law_a", "_law_hall_here"]) (fr := ["_law_hall_here"]) (k := 9) (y := "_law_a") (F := (wk2 z).1 c') (t := fun _ E => tCall (spO (RX_refG CH 1)) [] E (tCons (tVar 1) (tCons (tC (.int 5)) tNil))) (NdefX.nscope_by (show NdefX.nscB ["_law_a", "_law_hall_here"] ["_law_a"] ["_law_hall_here"] wS2 = true by decide +kernel)) (fun s q cl f u pm cv ctv doc h => BindsTo.of_defaults rfl h rfl rfl rfl) (fun f A outer s H ws E hr _ => (by
    have tk : Takes (NdefX.ncx (L2.CX P w) P w K mg base ["_law_a", "_law_hall_here"] ((wk2 z).1 c').nf f A outer s H E) (fun cls d _ H => E cls d H) := takes_of rfl rfl rfl rfl
    exact (pe_dcallX X_may (hr.mono (by first | decide | omega)) (passes_call tk (fun _ _ _ _ h => h)) (pa_cons (pv 1) (pa_cons pe_int pa_nil)))))
  · exact oe_call (ea_cons (ed_var hρ) (ea_cons ed_int ea_nil)) ⟨d, [.int 5], e, rfl, rfl, hd, he, rfl⟩
theorem wl3 {P : Program} {w : World} {K : PySem.W.Frag} {mg : Str → Option Value} {base : Heap} {CH CB : Addr} (X : WkX P w K mg base CH CB) (z : Addr) : WkRun P w K mg base CH (wk3 z) := by
  have X_shortest := X.shortest
  intro c'
  refine ⟨["_law_b", "_law_hall_here"], [.int 0], 1, fun E => tCall (spO (RX_refG CH 2)) [] E (tCons (tVar 1) (tCons (tC (.int 5)) (tCons (tC (.int 5)) tNil))), ?_, ⟨rfl, rfl⟩, fun d e hd he E ρ hρ => ?_⟩
  · exact lrun_ofD (N := ["_law_b", "_law_hall_here"]) (fr := ["_law_hall_here"]) (k := 9) (y := "_law_b") (F := (wk3 z).1 c') (t := fun _ E => tCall (spO (RX_refG CH 2)) [] E (tCons (tVar 1) (tCons (tC (.int 5)) (tCons (tC (.int 5)) tNil)))) (NdefX.nscope_by (show NdefX.nscB ["_law_b", "_law_hall_here"] ["_law_b"] ["_law_hall_here"] wS3 = true by decide +kernel)) (fun s q cl f u pm cv ctv doc h => BindsTo.of_defaults rfl h rfl rfl rfl) (fun f A outer s H ws E hr _ => (by
    have tk : Takes (NdefX.ncx (L2.CX P w) P w K mg base ["_law_b", "_law_hall_here"] ((wk3 z).1 c').nf f A outer s H E) (fun cls d _ H => E cls d H) := takes_of rfl rfl rfl rfl
    exact (pe_dcallX X_shortest (hr.mono (by first | decide | omega)) (passes_call tk (fun _ _ _ _ h => h)) (pa_cons (pv 1) (pa_cons pe_int (pa_cons pe_int pa_nil))))))
  · exact oe_call (ea_cons (ed_var hρ) (ea_cons ed_int (ea_cons ed_int ea_nil))) ⟨d, [.int 5, .int 5], e, rfl, rfl, hd, he, rfl⟩
theorem wl4 {P : Program} {w : World} {K : PySem.W.Frag} {mg : Str → Option Value} {base : Heap} {CH CB : Addr} (X : WkX P w K mg base CH CB) (z : Addr) : WkRun P w K mg base CH (wk4 z) := by
  have X_gentlest := X.gentlest
  intro c'
  refine ⟨["_law_hall_here"], [], 0, fun E => tCall (spO (RX_refG CH 2)) [] E (tCons (tVar 0) (tCons (tC (.int 5)) (tCons (tC (.int 5)) tNil))), ?_, ⟨rfl, rfl⟩, fun d e hd he E ρ hρ => ?_⟩
  · exact lrun_of (N := ["_law_hall_here"]) (fr := ["_law_hall_here"]) (k := 9) (F := (wk4 z).1 c') (t := fun _ E => tCall (spO (RX_refG CH 2)) [] E (tCons (tVar 0) (tCons (tC (.int 5)) (tCons (tC (.int 5)) tNil)))) (NdefX.nscope_by (show NdefX.nscB ["_law_hall_here"] [] ["_law_hall_here"] wS4 = true by decide +kernel)) (fun pm ctv => by rfl) (fun f A outer s H ws E hr _ => (by
    have tk : Takes (NdefX.ncx (L2.CX P w) P w K mg base ["_law_hall_here"] ((wk4 z).1 c').nf f A outer s H E) (fun cls d _ H => E cls d H) := takes_of rfl rfl rfl rfl
    exact (pe_dcallX X_gentlest (hr.mono (by first | decide | omega)) (passes_call tk (fun _ _ _ _ h => h)) (pa_cons (pv 0) (pa_cons pe_int (pa_cons pe_int pa_nil))))))
  · exact oe_call (ea_cons (ed_var hρ) (ea_cons ed_int (ea_cons ed_int ea_nil))) ⟨d, [.int 5, .int 5], e, rfl, rfl, hd, he, rfl⟩
theorem wl5 {P : Program} {w : World} {K : PySem.W.Frag} {mg : Str → Option Value} {base : Heap} {CH CB : Addr} (X : WkX P w K mg base CH CB) (z : Addr) : WkRun P w K mg base CH (wk5 z) := by
  have X_reached := X.reached
  intro c'
  refine ⟨["_law_a", "_law_hall_here"], [.int 0], 1, fun E => tCall (spO (RX_refG CH 1)) [] E (tCons (tVar 1) (tCons (tC (.int 5)) tNil)), ?_, ⟨rfl, rfl⟩, fun d e hd he E ρ hρ => ?_⟩
  · exact lrun_ofD (N := ["_law_a", "_law_hall_here"]) (fr := ["_law_hall_here"]) (k := 9) (y := "_law_a") (F := (wk5 z).1 c') (t := fun _ E => tCall (spO (RX_refG CH 1)) [] E (tCons (tVar 1) (tCons (tC (.int 5)) tNil))) (NdefX.nscope_by (show NdefX.nscB ["_law_a", "_law_hall_here"] ["_law_a"] ["_law_hall_here"] wS5 = true by decide +kernel)) (fun s q cl f u pm cv ctv doc h => BindsTo.of_defaults rfl h rfl rfl rfl) (fun f A outer s H ws E hr _ => (by
    have tk : Takes (NdefX.ncx (L2.CX P w) P w K mg base ["_law_a", "_law_hall_here"] ((wk5 z).1 c').nf f A outer s H E) (fun cls d _ H => E cls d H) := takes_of rfl rfl rfl rfl
    exact (pe_dcallX X_reached (hr.mono (by first | decide | omega)) (passes_call tk (fun _ _ _ _ h => h)) (pa_cons (pv 1) (pa_cons pe_int pa_nil)))))
  · exact oe_call (ea_cons (ed_var hρ) (ea_cons ed_int ea_nil)) ⟨d, [.int 5], e, rfl, rfl, hd, he, rfl⟩
theorem wl6 {P : Program} {w : World} {K : PySem.W.Frag} {mg : Str → Option Value} {base : Heap} {CH CB : Addr} (X : WkX P w K mg base CH CB) (z : Addr) : WkRun P w K mg base CH (wk6 z) := by
  have X_still := X.still
  intro c'
  refine ⟨["_law_b", "_law_hall_here"], [.int 0], 1, fun E => tCall (spO (RX_refG CH 1)) [] E (tCons (tVar 1) (tCons (tC (.int 5)) tNil)), ?_, ⟨rfl, rfl⟩, fun d e hd he E ρ hρ => ?_⟩
  · exact lrun_ofD (N := ["_law_b", "_law_hall_here"]) (fr := ["_law_hall_here"]) (k := 9) (y := "_law_b") (F := (wk6 z).1 c') (t := fun _ E => tCall (spO (RX_refG CH 1)) [] E (tCons (tVar 1) (tCons (tC (.int 5)) tNil))) (NdefX.nscope_by (show NdefX.nscB ["_law_b", "_law_hall_here"] ["_law_b"] ["_law_hall_here"] wS6 = true by decide +kernel)) (fun s q cl f u pm cv ctv doc h => BindsTo.of_defaults rfl h rfl rfl rfl) (fun f A outer s H ws E hr _ => (by
    have tk : Takes (NdefX.ncx (L2.CX P w) P w K mg base ["_law_b", "_law_hall_here"] ((wk6 z).1 c').nf f A outer s H E) (fun cls d _ H => E cls d H) := takes_of rfl rfl rfl rfl
    exact (pe_dcallX X_still (hr.mono (by first | decide | omega)) (passes_call tk (fun _ _ _ _ h => h)) (pa_cons (pv 1) (pa_cons pe_int pa_nil)))))
  · exact oe_call (ea_cons (ed_var hρ) (ea_cons ed_int ea_nil)) ⟨d, [.int 5], e, rfl, rfl, hd, he, rfl⟩
theorem wl7 {P : Program} {w : World} {K : PySem.W.Frag} {mg : Str → Option Value} {base : Heap} {CH CB : Addr} (X : WkX P w K mg base CH CB) (z : Addr) : WkRun P w K mg base CH (wk7 z) := by
  have X_oneway := X.oneway
  intro c'
  refine ⟨["_law_hall_here"], [], 0, fun E => tCall (spO (RX_refG CH 1)) [] E (tCons (tVar 0) (tCons (tC (.int 5)) tNil)), ?_, ⟨rfl, rfl⟩, fun d e hd he E ρ hρ => ?_⟩
  · exact lrun_of (N := ["_law_hall_here"]) (fr := ["_law_hall_here"]) (k := 9) (F := (wk7 z).1 c') (t := fun _ E => tCall (spO (RX_refG CH 1)) [] E (tCons (tVar 0) (tCons (tC (.int 5)) tNil))) (NdefX.nscope_by (show NdefX.nscB ["_law_hall_here"] [] ["_law_hall_here"] wS7 = true by decide +kernel)) (fun pm ctv => by rfl) (fun f A outer s H ws E hr _ => (by
    have tk : Takes (NdefX.ncx (L2.CX P w) P w K mg base ["_law_hall_here"] ((wk7 z).1 c').nf f A outer s H E) (fun cls d _ H => E cls d H) := takes_of rfl rfl rfl rfl
    exact (pe_dcallX X_oneway (hr.mono (by first | decide | omega)) (passes_call tk (fun _ _ _ _ h => h)) (pa_cons (pv 0) (pa_cons pe_int pa_nil)))))
  · exact oe_call (ea_cons (ed_var hρ) (ea_cons ed_int ea_nil)) ⟨d, [.int 5], e, rfl, rfl, hd, he, rfl⟩
theorem wl8 {P : Program} {w : World} {K : PySem.W.Frag} {mg : Str → Option Value} {base : Heap} {CH CB : Addr} (X : WkX P w K mg base CH CB) (z : Addr) : WkRun P w K mg base CH (wk8 z) := by
  have X_lost := X.lost
  intro c'
  refine ⟨["_law_a", "_law_hall_here"], [.int 0], 1, fun E => tCall (spO (RX_refG CH 2)) [] E (tCons (tVar 1) (tCons (tC (.int 5)) (tCons (tC (.int 5)) tNil))), ?_, ⟨rfl, rfl⟩, fun d e hd he E ρ hρ => ?_⟩
  · exact lrun_ofD (N := ["_law_a", "_law_hall_here"]) (fr := ["_law_hall_here"]) (k := 9) (y := "_law_a") (F := (wk8 z).1 c') (t := fun _ E => tCall (spO (RX_refG CH 2)) [] E (tCons (tVar 1) (tCons (tC (.int 5)) (tCons (tC (.int 5)) tNil)))) (NdefX.nscope_by (show NdefX.nscB ["_law_a", "_law_hall_here"] ["_law_a"] ["_law_hall_here"] wS8 = true by decide +kernel)) (fun s q cl f u pm cv ctv doc h => BindsTo.of_defaults rfl h rfl rfl rfl) (fun f A outer s H ws E hr _ => (by
    have tk : Takes (NdefX.ncx (L2.CX P w) P w K mg base ["_law_a", "_law_hall_here"] ((wk8 z).1 c').nf f A outer s H E) (fun cls d _ H => E cls d H) := takes_of rfl rfl rfl rfl
    exact (pe_dcallX X_lost (hr.mono (by first | decide | omega)) (passes_call tk (fun _ _ _ _ h => h)) (pa_cons (pv 1) (pa_cons pe_int (pa_cons pe_int pa_nil))))))
  · exact oe_call (ea_cons (ed_var hρ) (ea_cons ed_int (ea_cons ed_int ea_nil))) ⟨d, [.int 5, .int 5], e, rfl, rfl, hd, he, rfl⟩
theorem wl9 {P : Program} {w : World} {K : PySem.W.Frag} {mg : Str → Option Value} {base : Heap} {CH CB : Addr} (X : WkX P w K mg base CH CB) (z : Addr) : WkRun P w K mg base CH (wk9 z) := by
  have X_far := X.far
  intro c'
  refine ⟨["_law_b", "_law_hall_here"], [.int 0], 1, fun E => tCall (spO (RX_refG CH 1)) [] E (tCons (tVar 1) (tCons (tC (.int 5)) tNil)), ?_, ⟨rfl, rfl⟩, fun d e hd he E ρ hρ => ?_⟩
  · exact lrun_ofD (N := ["_law_b", "_law_hall_here"]) (fr := ["_law_hall_here"]) (k := 9) (y := "_law_b") (F := (wk9 z).1 c') (t := fun _ E => tCall (spO (RX_refG CH 1)) [] E (tCons (tVar 1) (tCons (tC (.int 5)) tNil))) (NdefX.nscope_by (show NdefX.nscB ["_law_b", "_law_hall_here"] ["_law_b"] ["_law_hall_here"] wS9 = true by decide +kernel)) (fun s q cl f u pm cv ctv doc h => BindsTo.of_defaults rfl h rfl rfl rfl) (fun f A outer s H ws E hr _ => (by
    have tk : Takes (NdefX.ncx (L2.CX P w) P w K mg base ["_law_b", "_law_hall_here"] ((wk9 z).1 c').nf f A outer s H E) (fun cls d _ H => E cls d H) := takes_of rfl rfl rfl rfl
    exact (pe_dcallX X_far (hr.mono (by first | decide | omega)) (passes_call tk (fun _ _ _ _ h => h)) (pa_cons (pv 1) (pa_cons pe_int pa_nil)))))
  · exact oe_call (ea_cons (ed_var hρ) (ea_cons ed_int ea_nil)) ⟨d, [.int 5], e, rfl, rfl, hd, he, rfl⟩
theorem wl10 {P : Program} {w : World} {K : PySem.W.Frag} {mg : Str → Option Value} {base : Heap} {CH CB : Addr} (X : WkX P w K mg base CH CB) (z : Addr) : WkRun P w K mg base CH (wk10 z) := by
  have X_paper := X.paper
  intro c'
  refine ⟨["_law_hall_here"], [], 0, fun E => tCall (spO (RX_refG CH 2)) [] E (tCons (tVar 0) (tCons (tC (.int 5)) (tCons (tC (.int 5)) tNil))), ?_, ⟨rfl, rfl⟩, fun d e hd he E ρ hρ => ?_⟩
  · exact lrun_of (N := ["_law_hall_here"]) (fr := ["_law_hall_here"]) (k := 9) (F := (wk10 z).1 c') (t := fun _ E => tCall (spO (RX_refG CH 2)) [] E (tCons (tVar 0) (tCons (tC (.int 5)) (tCons (tC (.int 5)) tNil)))) (NdefX.nscope_by (show NdefX.nscB ["_law_hall_here"] [] ["_law_hall_here"] wS10 = true by decide +kernel)) (fun pm ctv => by rfl) (fun f A outer s H ws E hr _ => (by
    have tk : Takes (NdefX.ncx (L2.CX P w) P w K mg base ["_law_hall_here"] ((wk10 z).1 c').nf f A outer s H E) (fun cls d _ H => E cls d H) := takes_of rfl rfl rfl rfl
    exact (pe_dcallX X_paper (hr.mono (by first | decide | omega)) (passes_call tk (fun _ _ _ _ h => h)) (pa_cons (pv 0) (pa_cons pe_int (pa_cons pe_int pa_nil))))))
  · exact oe_call (ea_cons (ed_var hρ) (ea_cons ed_int (ea_cons ed_int ea_nil))) ⟨d, [.int 5, .int 5], e, rfl, rfl, hd, he, rfl⟩
theorem wl11 {P : Program} {w : World} {K : PySem.W.Frag} {mg : Str → Option Value} {base : Heap} {CH CB : Addr} (X : WkX P w K mg base CH CB) (z : Addr) : WkRun P w K mg base CH (wk11 z) := by
  have X_shows := X.shows
  intro c'
  refine ⟨["_law_a", "_law_hall_here"], [.int 0], 1, fun E => tCall (spO (RX_refG CH 3)) [] E (tCons (tVar 1) (tCons (tC (.int 5)) (tCons (tC (.int 5)) (tCons (tC (.int 5)) tNil)))), ?_, ⟨rfl, rfl⟩, fun d e hd he E ρ hρ => ?_⟩
  · exact lrun_ofD (N := ["_law_a", "_law_hall_here"]) (fr := ["_law_hall_here"]) (k := 9) (y := "_law_a") (F := (wk11 z).1 c') (t := fun _ E => tCall (spO (RX_refG CH 3)) [] E (tCons (tVar 1) (tCons (tC (.int 5)) (tCons (tC (.int 5)) (tCons (tC (.int 5)) tNil))))) (NdefX.nscope_by (show NdefX.nscB ["_law_a", "_law_hall_here"] ["_law_a"] ["_law_hall_here"] wS11 = true by decide +kernel)) (fun s q cl f u pm cv ctv doc h => BindsTo.of_defaults rfl h rfl rfl rfl) (fun f A outer s H ws E hr _ => (by
    have tk : Takes (NdefX.ncx (L2.CX P w) P w K mg base ["_law_a", "_law_hall_here"] ((wk11 z).1 c').nf f A outer s H E) (fun cls d _ H => E cls d H) := takes_of rfl rfl rfl rfl
    exact (pe_dcallX X_shows (hr.mono (by first | decide | omega)) (passes_call tk (fun _ _ _ _ h => h)) (pa_cons (pv 1) (pa_cons pe_int (pa_cons pe_int (pa_cons pe_int pa_nil)))))))
  · exact oe_call (ea_cons (ed_var hρ) (ea_cons ed_int (ea_cons ed_int (ea_cons ed_int ea_nil)))) ⟨d, [.int 5, .int 5, .int 5], e, rfl, rfl, hd, he, rfl⟩
theorem wl12 {P : Program} {w : World} {K : PySem.W.Frag} {mg : Str → Option Value} {base : Heap} {CH CB : Addr} (X : WkX P w K mg base CH CB) (z : Addr) : WkRun P w K mg base CH (wk12 z) := by
  have X_lifted := X.lifted
  intro c'
  refine ⟨["_law_hall_here"], [], 0, fun E => tCallN 3 1 (spO (RX_refG CH 3)) catV E (tCons (tVar 0) (tCons (tC (.int 5)) (tCons (tC (.int 5)) tNil))) (tCons (tC (.int 9)) tNil), ?_, ⟨rfl, rfl⟩, fun d e hd he E ρ hρ => ?_⟩
  · exact lrun_of (N := ["_law_hall_here"]) (fr := ["_law_hall_here"]) (k := 9) (F := (wk12 z).1 c') (t := fun _ E => tCallN 3 1 (spO (RX_refG CH 3)) catV E (tCons (tVar 0) (tCons (tC (.int 5)) (tCons (tC (.int 5)) tNil))) (tCons (tC (.int 9)) tNil)) (NdefX.nscope_by (show NdefX.nscB ["_law_hall_here"] [] ["_law_hall_here"] wS12 = true by decide +kernel)) (fun pm ctv => by rfl) (fun f A outer s H ws E hr _ => (by
    have tk : Takes (NdefX.ncx (L2.CX P w) P w K mg base ["_law_hall_here"] ((wk12 z).1 c').nf f A outer s H E) (fun cls d _ H => E cls d H) := takes_of rfl rfl rfl rfl
    exact (pe_dcallMX X_lifted (hr.mono (by first | decide | omega)) (passes_call tk (fun _ _ _ _ h => h)) (pa_cons (pv 0) (pa_cons pe_int (pa_cons pe_int pa_nil))) (pk_cons pe_int pk_nil))))
  · exact oe_callN (ea_cons (ed_var hρ) (ea_cons ed_int (ea_cons ed_int ea_nil))) ed_int rfl ⟨d, [.int 5, .int 5, .int 9], e, rfl, rfl, hd, he, rfl⟩
theorem wl13 {P : Program} {w : World} {K : PySem.W.Frag} {mg : Str → Option Value} {base : Heap} {CH CB : Addr} (X : WkX P w K mg base CH CB) (z : Addr) : WkRun P w K mg base CH (wk13 z) := by
  have X_turned := X.turned
  intro c'
  refine ⟨["_law_hall_here"], [], 0, fun E => tCall (spO (RX_refG CH 1)) [] E (tCons (tVar 0) (tCons (tC (.int 5)) tNil)), ?_, ⟨rfl, rfl⟩, fun d e hd he E ρ hρ => ?_⟩
  · exact lrun_of (N := ["_law_hall_here"]) (fr := ["_law_hall_here"]) (k := 9) (F := (wk13 z).1 c') (t := fun _ E => tCall (spO (RX_refG CH 1)) [] E (tCons (tVar 0) (tCons (tC (.int 5)) tNil))) (NdefX.nscope_by (show NdefX.nscB ["_law_hall_here"] [] ["_law_hall_here"] wS13 = true by decide +kernel)) (fun pm ctv => by rfl) (fun f A outer s H ws E hr _ => (by
    have tk : Takes (NdefX.ncx (L2.CX P w) P w K mg base ["_law_hall_here"] ((wk13 z).1 c').nf f A outer s H E) (fun cls d _ H => E cls d H) := takes_of rfl rfl rfl rfl
    exact (pe_dcallX X_turned (hr.mono (by first | decide | omega)) (passes_call tk (fun _ _ _ _ h => h)) (pa_cons (pv 0) (pa_cons pe_int pa_nil)))))
  · exact oe_call (ea_cons (ed_var hρ) (ea_cons ed_int ea_nil)) ⟨d, [.int 5], e, rfl, rfl, hd, he, rfl⟩
theorem wl14 {P : Program} {w : World} {K : PySem.W.Frag} {mg : Str → Option Value} {base : Heap} {CH CB : Addr} (X : WkX P w K mg base CH CB) (z : Addr) : WkRun P w K mg base CH (wk14 z) := by
  have X_mirrored := X.mirrored
  intro c'
  refine ⟨["_law_a", "_law_hall_here"], [.int 0], 1, fun E => tCall (spO (RX_refG CH 1)) [] E (tCons (tVar 1) (tCons (tC (.int 5)) tNil)), ?_, ⟨rfl, rfl⟩, fun d e hd he E ρ hρ => ?_⟩
  · exact lrun_ofD (N := ["_law_a", "_law_hall_here"]) (fr := ["_law_hall_here"]) (k := 9) (y := "_law_a") (F := (wk14 z).1 c') (t := fun _ E => tCall (spO (RX_refG CH 1)) [] E (tCons (tVar 1) (tCons (tC (.int 5)) tNil))) (NdefX.nscope_by (show NdefX.nscB ["_law_a", "_law_hall_here"] ["_law_a"] ["_law_hall_here"] wS14 = true by decide +kernel)) (fun s q cl f u pm cv ctv doc h => BindsTo.of_defaults rfl h rfl rfl rfl) (fun f A outer s H ws E hr _ => (by
    have tk : Takes (NdefX.ncx (L2.CX P w) P w K mg base ["_law_a", "_law_hall_here"] ((wk14 z).1 c').nf f A outer s H E) (fun cls d _ H => E cls d H) := takes_of rfl rfl rfl rfl
    exact (pe_dcallX X_mirrored (hr.mono (by first | decide | omega)) (passes_call tk (fun _ _ _ _ h => h)) (pa_cons (pv 1) (pa_cons pe_int pa_nil)))))
  · exact oe_call (ea_cons (ed_var hρ) (ea_cons ed_int ea_nil)) ⟨d, [.int 5], e, rfl, rfl, hd, he, rfl⟩
theorem wl15 {P : Program} {w : World} {K : PySem.W.Frag} {mg : Str → Option Value} {base : Heap} {CH CB : Addr} (X : WkX P w K mg base CH CB) (z : Addr) : WkRun P w K mg base CH (wk15 z) := by
  have XI := X.make
  have hB := X.bench
  intro c'
  refine ⟨["_law_b", "_law_hall_here"], [.int 0], 1, fun E => tMake CB (spI CB (RX_refG CH 1)) [] E (tCons (tVar 1) (tCons (tC (.int 5)) tNil)), ?_, ⟨rfl, rfl⟩, fun d e hd he E ρ hρ => ?_⟩
  · exact lrun_ofD (N := ["_law_b", "_law_hall_here"]) (fr := ["_law_hall_here"]) (k := 9) (y := "_law_b") (F := (wk15 z).1 c') (t := fun _ E => tMake CB (spI CB (RX_refG CH 1)) [] E (tCons (tVar 1) (tCons (tC (.int 5)) tNil))) (NdefX.nscope_by (show NdefX.nscB ["_law_b", "_law_hall_here"] ["_law_b"] ["_law_hall_here"] wS15 = true by decide +kernel)) (fun s q cl f u pm cv ctv doc h => BindsTo.of_defaults rfl h rfl rfl rfl) (fun f A outer s H ws E hr _ => (by
    have tk : Takes (NdefX.ncx (L2.CX P w) P w K mg base ["_law_b", "_law_hall_here"] ((wk15 z).1 c').nf f A outer s H E) (fun cls d _ H => E cls d H) := takes_of rfl rfl rfl rfl
    exact (pe_bmakeX XI (hr.mono (by first | decide | omega)) (passes_call tk (fun _ _ _ _ h => h)) (by rfl) hB (pa_cons (pv 1) (pa_cons pe_int pa_nil)))))
  · exact oe_make (ea_cons (ed_var hρ) (ea_cons ed_int ea_nil)) ⟨d, [.int 5], e, rfl, rfl, hd, he, rfl⟩
theorem wl16 {P : Program} {w : World} {K : PySem.W.Frag} {mg : Str → Option Value} {base : Heap} {CH CB : Addr} (X : WkX P w K mg base CH CB) (z : Addr) : WkRun P w K mg base CH (wk16 z) := by
  have X_written := X.written
  intro c'
  refine ⟨["_law_hall_here"], [], 0, fun E => tCall (spO (RX_refG CH 1)) [] E (tCons (tVar 0) (tCons (tC (.int 5)) tNil)), ?_, ⟨rfl, rfl⟩, fun d e hd he E ρ hρ => ?_⟩
  · exact lrun_of (N := ["_law_hall_here"]) (fr := ["_law_hall_here"]) (k := 9) (F := (wk16 z).1 c') (t := fun _ E => tCall (spO (RX_refG CH 1)) [] E (tCons (tVar 0) (tCons (tC (.int 5)) tNil))) (NdefX.nscope_by (show NdefX.nscB ["_law_hall_here"] [] ["_law_hall_here"] wS16 = true by decide +kernel)) (fun pm ctv => by rfl) (fun f A outer s H ws E hr _ => (by
    have tk : Takes (NdefX.ncx (L2.CX P w) P w K mg base ["_law_hall_here"] ((wk16 z).1 c').nf f A outer s H E) (fun cls d _ H => E cls d H) := takes_of rfl rfl rfl rfl
    exact (pe_dcallX X_written (hr.mono (by first | decide | omega)) (passes_call tk (fun _ _ _ _ h => h)) (pa_cons (pv 0) (pa_cons pe_int pa_nil)))))
  · exact oe_call (ea_cons (ed_var hρ) (ea_cons ed_int ea_nil)) ⟨d, [.int 5], e, rfl, rfl, hd, he, rfl⟩
theorem wks_run {P : Program} {w : World} {K : PySem.W.Frag} {mg : Str → Option Value} {base : Heap} {CH CB : Addr} (X : WkX P w K mg base CH CB) (z : Addr) : ∀ W ∈ wks z, WkRun P w K mg base CH W := fun W hW => by
  unfold wks at hW
  simp only [List.mem_cons, List.not_mem_nil, or_false] at hW
  rcases hW with rfl | rfl | rfl | rfl | rfl | rfl | rfl | rfl | rfl | rfl | rfl | rfl | rfl | rfl | rfl | rfl
  · exact wl1 X z
  · exact wl2 X z
  · exact wl3 X z
  · exact wl4 X z
  · exact wl5 X z
  · exact wl6 X z
  · exact wl7 X z
  · exact wl8 X z
  · exact wl9 X z
  · exact wl10 X z
  · exact wl11 X z
  · exact wl12 X z
  · exact wl13 X z
  · exact wl14 X z
  · exact wl15 X z
  · exact wl16 X z
abbrev n_L_works : List Str := ["_law_hall_here", "_law_works_here"]
abbrev p_L_works : List Str := ["_law_hall_here"]
theorem sc_L_works : FnScope n_L_works p_L_works (defScope s_L_works) := ⟨rfl, rfl, rfl, by decide +kernel, rfl, by decide +kernel, by decide +kernel⟩
def rd_L_works (K : PySem.W.Frag) (Tb : List (Addr × Str)) (z : Addr) : (L2.St → VK) → L2.St → Hp → Prop := fun R σ H => (tAsg (tLst (taLW Tb [wk1 z, wk2 z, wk3 z])) (gName 1)) (noEnds ((fun R σ H => (tAsg (tOp (rAddX K) (tVar 1) (tLst (taLW Tb [wk4 z, wk5 z, wk6 z]))) (gName 1)) (noEnds ((fun R σ H => (tAsg (tOp (rAddX K) (tVar 1) (tLst (taLW Tb [wk7 z, wk8 z, wk9 z]))) (gName 1)) (noEnds ((fun R σ H => (tAsg (tOp (rAddX K) (tVar 1) (tLst (taLW Tb [wk10 z, wk11 z]))) (gName 1)) (noEnds ((fun R σ H => (tDrop (tBM K "list" rAppend (tVar 1) (tCons (tLW Tb (wk12 z)) tNil))) (noEnds ((fun R σ H => (tAsg (tOp (rAddX K) (tVar 1) (tLst (taLW Tb [wk13 z, wk14 z, wk15 z]))) (gName 1)) (noEnds ((fun R σ H => (tOp (rAddX K) (tVar 1) (tLst (taLW Tb [wk16 z]))) σ H (R σ)) R)) σ H) R)) σ H) R)) σ H) R)) σ H) R)) σ H) R)) σ H
theorem bd_L_works {P : Program} {w : World} {K : PySem.W.Frag} {mg : Str → Option Value} {base : Heap} {f c PW : Addr} {A : Around} {outer : List Env} {s : Shared} {H : Hp} {E : XK} {Tb : List (Addr × Str)} (TB : LamX.TabB base mg c PW) (hm : (PW, nmL "_law_works") ∈ Tb) (hu : ∀ p ∈ Tb, p.1 = PW → p.2 = nmL "_law_works") :
    PRs (cxOf CX0 P w K mg base n_L_works "_law_works" (defScope s_L_works) f (.ref c) A outer s H E) (defBody s_L_works) (rd_L_works K Tb (s.heap.objs.size + 1)) := by
  have nd : n_L_works.Nodup := sc_L_works.nd
  exact (prs_cons (ps_set (i := 1) nd rfl (Or.inl rfl) (pe_lst (pa_cons (pe_lamV TB rfl hm hu (by rfl) (fun y hy e => NdefX.ndef_free (sc := defScope s_L_works) (nsc := wS1) (fr := ["_law_hall_here"]) (by decide +kernel) y hy e)) (pa_cons (pe_lamDV TB rfl hm hu (by rfl) (by rfl) pe_int (fun y hy e => NdefX.ndef_free (sc := defScope s_L_works) (nsc := wS2) (fr := ["_law_hall_here"]) (by decide +kernel) y hy e)) (pa_cons (pe_lamDV TB rfl hm hu (by rfl) (by rfl) pe_int (fun y hy e => NdefX.ndef_free (sc := defScope s_L_works) (nsc := wS3) (fr := ["_law_hall_here"]) (by decide +kernel) y hy e)) pa_nil))))) (prs_cons (ps_set (i := 1) nd rfl (Or.inl rfl) (pe_op op_addX (pv 1) (pe_lst (pa_cons (pe_lamV TB rfl hm hu (by rfl) (fun y hy e => NdefX.ndef_free (sc := defScope s_L_works) (nsc := wS4) (fr := ["_law_hall_here"]) (by decide +kernel) y hy e)) (pa_cons (pe_lamDV TB rfl hm hu (by rfl) (by rfl) pe_int (fun y hy e => NdefX.ndef_free (sc := defScope s_L_works) (nsc := wS5) (fr := ["_law_hall_here"]) (by decide +kernel) y hy e)) (pa_cons (pe_lamDV TB rfl hm hu (by rfl) (by rfl) pe_int (fun y hy e => NdefX.ndef_free (sc := defScope s_L_works) (nsc := wS6) (fr := ["_law_hall_here"]) (by decide +kernel) y hy e)) pa_nil)))))) (prs_cons (ps_set (i := 1) nd rfl (Or.inl rfl) (pe_op op_addX (pv 1) (pe_lst (pa_cons (pe_lamV TB rfl hm hu (by rfl) (fun y hy e => NdefX.ndef_free (sc := defScope s_L_works) (nsc := wS7) (fr := ["_law_hall_here"]) (by decide +kernel) y hy e)) (pa_cons (pe_lamDV TB rfl hm hu (by rfl) (by rfl) pe_int (fun y hy e => NdefX.ndef_free (sc := defScope s_L_works) (nsc := wS8) (fr := ["_law_hall_here"]) (by decide +kernel) y hy e)) (pa_cons (pe_lamDV TB rfl hm hu (by rfl) (by rfl) pe_int (fun y hy e => NdefX.ndef_free (sc := defScope s_L_works) (nsc := wS9) (fr := ["_law_hall_here"]) (by decide +kernel) y hy e)) pa_nil)))))) (prs_cons (ps_set (i := 1) nd rfl (Or.inl rfl) (pe_op op_addX (pv 1) (pe_lst (pa_cons (pe_lamV TB rfl hm hu (by rfl) (fun y hy e => NdefX.ndef_free (sc := defScope s_L_works) (nsc := wS10) (fr := ["_law_hall_here"]) (by decide +kernel) y hy e)) (pa_cons (pe_lamDV TB rfl hm hu (by rfl) (by rfl) pe_int (fun y hy e => NdefX.ndef_free (sc := defScope s_L_works) (nsc := wS11) (fr := ["_law_hall_here"]) (by decide +kernel) y hy e)) pa_nil))))) (prs_cons (ps_expr (pe_bm PySem.F.plainAttrs_list PySem.F.slot_list_append PySem.F.type_list_append mt_append (pv 1) (pa_cons (pe_lamV TB rfl hm hu (by rfl) (fun y hy e => NdefX.ndef_free (sc := defScope s_L_works) (nsc := wS12) (fr := ["_law_hall_here"]) (by decide +kernel) y hy e)) pa_nil))) (prs_cons (ps_set (i := 1) nd rfl (Or.inl rfl) (pe_op op_addX (pv 1) (pe_lst (pa_cons (pe_lamV TB rfl hm hu (by rfl) (fun y hy e => NdefX.ndef_free (sc := defScope s_L_works) (nsc := wS13) (fr := ["_law_hall_here"]) (by decide +kernel) y hy e)) (pa_cons (pe_lamDV TB rfl hm hu (by rfl) (by rfl) pe_int (fun y hy e => NdefX.ndef_free (sc := defScope s_L_works) (nsc := wS14) (fr := ["_law_hall_here"]) (by decide +kernel) y hy e)) (pa_cons (pe_lamDV TB rfl hm hu (by rfl) (by rfl) pe_int (fun y hy e => NdefX.ndef_free (sc := defScope s_L_works) (nsc := wS15) (fr := ["_law_hall_here"]) (by decide +kernel) y hy e)) pa_nil)))))) (prs_ret (pe_op op_addX (pv 1) (pe_lst (pa_cons (pe_lamV TB rfl hm hu (by rfl) (fun y hy e => NdefX.ndef_free (sc := defScope s_L_works) (nsc := wS16) (fr := ["_law_hall_here"]) (by decide +kernel) y hy e)) pa_nil))))))))))
end Pd
/-! InitP01 -/
set_option Elab.async false
set_option linter.all false
set_option maxRecDepth 100000
set_option maxHeartbeats 4000000
namespace Pd
variable [Pd.Wd]
open PySem PySem.Spec PyProof.Rows L2 NdefX
theorem ok_initC {P : Program} {w : World} {K : PySem.W.Frag} {mg : Str → Option Value} {base : Heap} {C fI cc cda : Addr} {fd : FuncData}
    (U : SupF P K C fI cc cda "__init__" "BadCells.__init__" (defArgs s_initC) (defBody s_initC) (defScope s_initC) fd) (hno : PySem.W.findIn K (.ref C) "number" = some none) (hms : mg "super" = none) : FnOk P w K mg base CX0 1 fI fd ["self", "number"] (sp_initC C) := by
  refine fn_sup (N := ["self", "number", "__class__"]) U (nscope_by (by decide +kernel)) rfl hms _ (fun L => by rfl) (fun L => by rfl) (fun vs H Q E h => ?_) (fun A outer s H vs Q E hr h => ?_)
  · obtain ⟨a, i, rfl, _⟩ := h
    rfl
  · obtain ⟨a, i, rfl, hi, ha, q⟩ := h
    unfold initOkC at hi
    simp only [Bool.and_eq_true, decide_eq_true_eq] at hi
    obtain ⟨⟨⟨hi, l1⟩, l2⟩, l3⟩ := hi
    refine ⟨a, [.int i], _, _, rfl, ha, pe_joined (.cons pe_str (.cons (pe_fmt (pe_var (i := 1) rfl (.inl rfl))) (.cons pe_str .nil))), pss_one (ps_ost (pe_var (i := 0) rfl (.inl rfl)) (pe_var (i := 1) rfl (.inl rfl))), ?_⟩
    refine ⟨_, rfl, ?_, ?_⟩
    · exact l1
    refine ⟨.int i, rfl, .inr ⟨i, rfl, hi, ?_⟩⟩
    refine ⟨_, rfl, ?_, ?_⟩
    · exact l2
    refine ⟨_, rfl, ?_, ?_⟩
    · exact l3
    refine ⟨Nat.le_trans (Nat.le_refl 1) (by decide : 1 ≤ sizeLine), ha, ?_⟩
    refine ⟨.int i, rfl, .ref a, rfl, a, C, rfl, U.T, hno, .inl ⟨ha, fun dx hn hne => q dx hn hne⟩⟩
theorem ok_initH {P : Program} {w : World} {K : PySem.W.Frag} {mg : Str → Option Value} {base : Heap} {C fI cc cda : Addr} {fd : FuncData}
    (U : SupF P K C fI cc cda "__init__" "BadHall.__init__" (defArgs s_initH) (defBody s_initH) (defScope s_initH) fd) (hno : PySem.W.findIn K (.ref C) "part" = some none) (hno2 : PySem.W.findIn K (.ref C) "number" = some none) (hms : mg "super" = none) : FnOk P w K mg base CX0 1 fI fd ["self", "part", "number"] (sp_initH C) := by
  refine fn_sup (N := ["self", "part", "number", "__class__"]) U (nscope_by (by decide +kernel)) rfl hms _ (fun L => by rfl) (fun L => by rfl) (fun vs H Q E h => ?_) (fun A outer s H vs Q E hr h => ?_)
  · obtain ⟨a, i, j, rfl, _⟩ := h
    rfl
  · obtain ⟨a, i, j, rfl, hi, ha, q⟩ := h
    unfold initOkH at hi
    simp only [Bool.and_eq_true, decide_eq_true_eq] at hi
    obtain ⟨⟨⟨⟨⟨⟨hi, hj⟩, l1⟩, l2⟩, l3⟩, l4⟩, l5⟩ := hi
    refine ⟨a, [.int i, .int j], _, _, rfl, ha, pe_joined (.cons pe_str (.cons (pe_fmt (pe_var (i := 1) rfl (.inl rfl))) (.cons pe_str (.cons (pe_fmt (pe_var (i := 2) rfl (.inl rfl))) (.cons pe_str .nil))))), pss_cons (ps_ost (pe_var (i := 0) rfl (.inl rfl)) (pe_var (i := 1) rfl (.inl rfl))) (pss_one (ps_ost (pe_var (i := 0) rfl (.inl rfl)) (pe_var (i := 2) rfl (.inl rfl)))), ?_⟩
    refine ⟨_, rfl, ?_, ?_⟩
    · exact l1
    refine ⟨.int i, rfl, .inr ⟨i, rfl, hi, ?_⟩⟩
    refine ⟨_, rfl, ?_, ?_⟩
    · exact l2
    refine ⟨_, rfl, ?_, ?_⟩
    · exact l3
    refine ⟨.int j, rfl, .inr ⟨j, rfl, hj, ?_⟩⟩
    refine ⟨_, rfl, ?_, ?_⟩
    · exact l4
    refine ⟨_, rfl, ?_, ?_⟩
    · exact l5
    refine ⟨Nat.le_trans (Nat.le_refl 1) (by decide : 1 ≤ sizeLine), ha, ?_⟩
    refine ⟨.int i, rfl, .ref a, rfl, a, C, rfl, U.T, hno, .inl ⟨ha, fun dx hn hne => ?_⟩⟩
    refine ⟨.int j, rfl, .ref a, rfl, a, C, rfl, U.T, hno2, .inr ⟨dx, _, upd_same, by rw [upd_ne hne, upd_same], by simp, q dx hn hne⟩⟩
end Pd
/-! BI01 -/
set_option Elab.async false
set_option linter.all false
set_option maxRecDepth 100000
set_option maxHeartbeats 4000000
namespace Pd
variable [Pd.Wd]
open PySem PySem.Spec PyProof.Rows L2
abbrev n_B_init : List Str := ["self", "hall", "cells"]
abbrev p_B_init : List Str := ["self", "hall", "cells"]
theorem sc_B_init : FnScope n_B_init p_B_init (defScope s_B_init) := ⟨rfl, rfl, rfl, by decide +kernel, rfl, by decide +kernel, by decide +kernel⟩
theorem bf_B_init {P : Program} {w : World} {K : PySem.W.Frag} {mg : Str → Option Value} {base : Heap} {f : Addr} {cdv : Value} {A : Around} {outer : List Env} {s : Shared} {H : Hp} {E : XK} {sx_check_start : Sp} (hr : Room 6 (A.deeper (envOfC "Bench.__init__" (defScope s_B_init) s.heap.objs.size f cdv))) (X_check_start : DefS P w K mg base (L2.CX P w) 6 "check_start" p_check_start sx_check_start) :
    PSs (cxOf (L2.CX P w) P w K mg base n_B_init "Bench.__init__" (defScope s_B_init) f cdv A outer s H E) (defBody s_B_init) (tSeq (tDrop (tCall sx_check_start [] E (tCons (tVar 1) (tCons (tVar 2) tNil)))) tNever) := by
  have tk : Takes (cxOf (L2.CX P w) P w K mg base n_B_init "Bench.__init__" (defScope s_B_init) f cdv A outer s H E) (fun cls d _ H => E cls d H) := takes_of rfl rfl rfl rfl
  have nd : n_B_init.Nodup := sc_B_init.nd
  exact pss_first (ps_expr (pe_dcallX X_check_start (hr.mono (by first | decide | omega)) (passes_call tk (fun _ _ _ _ h => h)) (pa_cons (pv 1) (pa_cons (pv 2) pa_nil))))
end Pd
/-! WordE -/
set_option Elab.async false
set_option linter.all false
set_option maxRecDepth 100000
set_option maxHeartbeats 4000000
/-! what a suite asks of a caught exception of an own class that has fields; list.count of data -/
namespace Pd
variable [Pd.Wd]
open PySem PySem.Spec PyProof.Rows L2
def rCountD (K : PySem.W.Frag) : V → List V → Hp → VK → Prop := fun x xs H Q => ∃ (a : Addr) (y : V) (d : PyData) (ds : List PyData), x = V.ref a ∧ xs = [y] ∧ Dp K H (V.ref a) (.list ds) ∧ Dp K H y d ∧
  SeqAt.shaped (.list ds) = true ∧ SeqAt.shaped d = true ∧ Q (.int (ds.countP fun z => PyData.eqv z d : Nat)) H
theorem mt_countD {X : Cx} (hu : X.A.units + 65 < cLine) : MtR X "list.count" (rCountD X.K) := by
  intro pins s σ H x xs v us Q I rx rxs h
  obtain ⟨a, y, d, ds, rfl, rfl, hl, hy, sl, sd, q⟩ := h
  cases rx
  cases rxs with
  | cons ry rt =>
    rename_i uy ut
    cases rt
    obtain ⟨bs, r1⟩ := Dp.reads I d y uy hy ry
    have hxs : PyData.canLayAll0 ds = true := SeqAt.canLay_of_shaped sl
    have hroom : X.A.units + 1 + min (PyData.depthAll ds) d.depth < cLine := room_in_shaped sd hu
    cases hl with
    | lst hs ha =>
      obtain ⟨its, rv, ⟨⟨cls, dd, data, sls⟩, n, ho, hc, hdn, hdt⟩, hlen⟩ := I.list hs
      simp only at hc hdt
      subst hc hdt
      obtain ⟨as, h4⟩ := Dp.readsAll I ds _ its ha rv
      have hmap : its.map (SeqAt.readOf s.heap) = ds := SeqAt.readsAll_map ds its as hxs h4
      refine call_meets PySem.F.slot_list_count ⟨_, ho, rfl⟩ PySem.F.entry_list_count (PySem.F.args_list_count_2 _ _)
        (SeqAt.list_countAt a its.toArray n dd sls uy (fun u => PyData.eqv (SeqAt.readOf s.heap u) d)) ⟨ho, SeqAt.items_eqAt (vs := its.toArray) (show ReadsAll s.heap its.toArray.toList ds as from h4) r1 hxs (SeqAt.canLay_of_shaped sd) hroom, ?_⟩
      have e : its.toArray.toList.countP (fun u => PyData.eqv (SeqAt.readOf s.heap u) d) = ds.countP fun z => PyData.eqv z d := by
        rw [← hmap, List.countP_map]
        rfl
      refine ⟨.int (ds.countP fun z => PyData.eqv z d : Nat), H, I.tok _, ⟨s.toks, ?_⟩, q⟩
      show Value.int ((its.toArray.toList.countP (fun u => PyData.eqv (SeqAt.readOf s.heap u) d) : Nat) : Int) s.toks = _
      rw [e]
/-- isinstance(e, c), e the exception that the suite holds, of the class at D, its dict at dd -/
def rIsED (K : PySem.W.Frag) (D a dd : Addr) : List V → Hp → VK → Prop := fun xs H Q => ∃ (c : V) (cv : Value) (b : Bool) (fs : List (Str × V)), xs = [.ref a, c] ∧ (∀ u, RelV c u → u = cv) ∧ PySem.W.kitOne K (.ref D) cv = some b ∧ H dd = some (.xd fs) ∧ Q (.bl b) H
theorem call_isED {X : Cx} {a D dd : Addr} {oe : Obj} {cls : Value} {d : Option Addr} {pn : List (Addr × Obj)} (C : ExcC X.K D) (hz : Zc cls d oe) (hcls : cls = .ref D) (hdd : d = some dd) (hf : ∃ vs, oe.data = .fields vs) : CallR (X.suite a ((a, oe) :: pn)) (.builtin "isinstance") (rIsED X.K D a dd) := by
  intro pins s σ H xs us Q I r h
  obtain ⟨c, cv, b, fs, rfl, hcv, e, hd, q⟩ := h
  subst hcls
  subst hdd
  cases r with
  | cons rx rr =>
    cases rr with
    | cons rt rr =>
      cases rr
      cases rx
      have ec := hcv _ rt
      subst ec
      obtain ⟨hget, _⟩ := I.pin (a, oe) (List.mem_append.mpr (.inl List.mem_cons_self))
      obtain ⟨vs, hv⟩ := hf
      have hx : ObjOk X.prog X.w H s.heap dd (.xd fs) := I.hok dd _ hd
      obtain ⟨mA, hns, hr⟩ := hx
      obtain ⟨od, ho, hl⟩ := lookIn_ns hns
      have J : PySem.W.InstAt s.heap a oe D (some od) := ⟨hget, hz.1, by unfold PySem.W.notCls; rw [hv] <;> rfl, by rw [hz.2]; exact ho⟩
      have hcl : (PySem.W.clsIn X.K D).isSome = true := by
        obtain ⟨cd, hc, _⟩ := PySem.W.any_some C.hd
        rw [hc]
        rfl
      exact PySem.W.kia_one (PySem.W.kitx_exc hcl C.hg C.hk C.hs C.ha C.hn C.ht C.hm) I.kIn J e (fun z => nomatch z) fun tk => ⟨.bl b, H, I.kept (t' := tk) fun _ _ z => z, rfl, q⟩
def rIsEx (K : PySem.W.Frag) (D a : Addr) (cls : Value) (d : Option Addr) : List V → Hp → VK → Prop := fun xs H Q => cls = .ref D ∧ ∃ dd, d = some dd ∧ rIsED K D a dd xs H Q
theorem call_isEx {X : Cx} {a D : Addr} {oe : Obj} {cls : Value} {d : Option Addr} {pn : List (Addr × Obj)} (C : ExcC X.K D) (hz : Zc cls d oe) (hf : ∃ vs, oe.data = .fields vs) : CallR (X.suite a ((a, oe) :: pn)) (.builtin "isinstance") (rIsEx X.K D a cls d) := by
  intro pins s σ H xs us Q I r h
  obtain ⟨hc, dd, hd, h⟩ := h
  exact call_isED C hz hc hd hf pins s σ H xs us Q I r h
end Pd
/-! RdW -/
set_option Elab.async false
set_option linter.all false
set_option maxRecDepth 100000
set_option maxHeartbeats 4000000
namespace Pd
open PySem PySem.Spec PyProof.Rows L2
structure WordS (K : PySem.W.Frag) (mg : Str → Option Value) (C CH : Addr) (cA : Str → Addr) : Prop where
  xc : ExcC K C
  xf : XfC K C
  hall : mg "HallError" = some (.ref CH)
  b_ValueError : mg "ValueError" = none
  n_done : PySem.W.findIn K (.ref C) "done" = some none
  n_number : PySem.W.findIn K (.ref C) "number" = some none
  n_part : PySem.W.findIn K (.ref C) "part" = some none
  n_row : PySem.W.findIn K (.ref C) "row" = some none
  c_BadCells : mg "BadCells" = some (.ref (cA "BadCells"))
  c_BadCount : mg "BadCount" = some (.ref (cA "BadCount"))
  c_BadGoal : mg "BadGoal" = some (.ref (cA "BadGoal"))
  c_BadHall : mg "BadHall" = some (.ref (cA "BadHall"))
  c_BadName : mg "BadName" = some (.ref (cA "BadName"))
  c_BadPaper : mg "BadPaper" = some (.ref (cA "BadPaper"))
  c_BadStep : mg "BadStep" = some (.ref (cA "BadStep"))
  c_BadText : mg "BadText" = some (.ref (cA "BadText"))
  c_Halted : mg "Halted" = some (.ref (cA "Halted"))
  c_Meets : mg "Meets" = some (.ref (cA "Meets"))
  c_NoPoint : mg "NoPoint" = some (.ref (cA "NoPoint"))
  c_TooMany : mg "TooMany" = some (.ref (cA "TooMany"))
def rd_L_word_suite (K : PySem.W.Frag) (C : Addr) (cA : Str → Addr) (a : Addr) (cls : Value) (d : Option Addr) : TS := (tSeq (tAsg (tLst (tCons (tCB (rIsEx K C a cls d) (tCons (tVar 1) (tCons (tC (.ref (cA "BadCells"))) tNil))) (tCons (tCB (rIsEx K C a cls d) (tCons (tVar 1) (tCons (tC (.ref (cA "BadGoal"))) tNil))) (tCons (tCB (rIsEx K C a cls d) (tCons (tVar 1) (tCons (tC (.ref (cA "BadStep"))) tNil))) (tCons (tCB (rIsEx K C a cls d) (tCons (tVar 1) (tCons (tC (.ref (cA "BadPaper"))) tNil))) tNil))))) (gName 2)) (tSeq (tAsg (tOp (rAddX K) (tVar 2) (tLst (tCons (tCB (rIsEx K C a cls d) (tCons (tVar 1) (tCons (tC (.ref (cA "BadHall"))) tNil))) (tCons (tCB (rIsEx K C a cls d) (tCons (tVar 1) (tCons (tC (.ref (cA "Halted"))) tNil))) (tCons (tCB (rIsEx K C a cls d) (tCons (tVar 1) (tCons (tC (.ref (cA "BadText"))) tNil))) tNil))))) (gName 2)) (tSeq (tAsg (tOp (rAddX K) (tVar 2) (tLst (tCons (tCB (rIsEx K C a cls d) (tCons (tVar 1) (tCons (tC (.ref (cA "BadCount"))) tNil))) (tCons (tCB (rIsEx K C a cls d) (tCons (tVar 1) (tCons (tC (.ref (cA "TooMany"))) tNil))) (tCons (tCB (rIsEx K C a cls d) (tCons (tVar 1) (tCons (tC (.ref (cA "Meets"))) tNil))) tNil))))) (gName 2)) (tSeq (tAsg (tOp (rAddX K) (tVar 2) (tLst (tCons (tCB (rIsEx K C a cls d) (tCons (tVar 1) (tCons (tC (.ref (cA "BadName"))) tNil))) (tCons (tCB (rIsEx K C a cls d) (tCons (tVar 1) (tCons (tC (.ref (cA "NoPoint"))) tNil))) tNil)))) (gName 2)) (tSeq (tIfS (tOr (tTest (tOp (rNeD K) (tBM K "list" (rCountD K) (tVar 2) (tCons (tC (.bl true)) tNil)) (tC (.int 1)))) (tNot (tB (tCB (rIsEx K C a cls d) (tCons (tVar 1) (tCons (tC (.ty "ValueError")) tNil)))))) (tRet (tTup (tCons (tC (.str "other")) tNil))) tNext) (tSeq (tAsg (tBM K "list" (rIndexD K) (tVar 2) (tCons (tC (.bl true)) tNil)) (gName 3)) (tSeq (tIfS (tTest (tOp rLtI (tVar 3) (tC (.int 4)))) (tRet (tTup (tCons (tOp (rIx K) (tLst (tCons (tC (.str "cells")) (tCons (tC (.str "goal")) (tCons (tC (.str "step")) (tCons (tC (.str "paper")) tNil))))) (tVar 3)) (tCons (tXf a cls d C "number" (tVar 1)) tNil)))) tNext) (tSeq (tIfS (tTest (tOp (rEqD K) (tVar 3) (tC (.int 4)))) (tRet (tTup (tCons (tC (.str "hall")) (tCons (tXf a cls d C "part" (tVar 1)) (tCons (tXf a cls d C "number" (tVar 1)) tNil))))) tNext) (tSeq (tIfS (tTest (tOp rLtI (tVar 3) (tC (.int 7)))) (tRet (tIf (tTest (tOp (rEqD K) (tVar 3) (tC (.int 5)))) (tTup (tCons (tC (.str "halted")) (tCons (tXf a cls d C "number" (tVar 1)) (tCons (tXf a cls d C "done" (tVar 1)) tNil)))) (tTup (tCons (tC (.str "text")) (tCons (tXf a cls d C "row" (tVar 1)) tNil))))) tNext) (tRet (tTup (tCons (tOp (rIx K) (tLst (tCons (tC (.str "count")) (tCons (tC (.str "many")) (tCons (tC (.str "meets")) (tCons (tC (.str "name")) (tCons (tC (.str "point")) tNil)))))) (tOp rSubI (tVar 3) (tC (.int 7)))) tNil))))))))))))
end Pd
/-! BW01 -/
set_option Elab.async false
set_option linter.all false
set_option maxRecDepth 100000
set_option maxHeartbeats 4000000
namespace Pd
variable [Pd.Wd]
open PySem PySem.Spec PyProof.Rows L2
abbrev n_L_word : List Str := ["_law_work", "e", "_law_kinds", "_law_at"]
abbrev p_L_word : List Str := ["_law_work"]
theorem sc_L_word : FnScope n_L_word p_L_word (defScope s_L_word) := ⟨rfl, rfl, rfl, by decide +kernel, rfl, by decide +kernel, by decide +kernel⟩
def suiteB : List Stmt → List Stmt
  | .Try _ [.ExceptHandler _ _ b _] _ _ _ :: _ => b
  | _ => []
theorem bd_L_word_suite {P : Program} {w : World} {K : PySem.W.Frag} {mg : Str → Option Value} {base : Heap} {f : Addr} {cdv : Value} {A : Around} {outer : List Env} {s : Shared} {H : Hp} {E : XK} {aWAYS aWAYS_TURNED aWAYS_MIRRORED C CH a : Addr} {cA : Str → Addr} {oe : Obj} {cls : Value} {d : Option Addr} {pn : List (Addr × Obj)} (T : Txt K mg w aWAYS aWAYS_TURNED aWAYS_MIRRORED) (W : WordS K mg C CH cA) (hr : Room 0 (A.deeper (envOfC "_law_word" (defScope s_L_word) s.heap.objs.size f cdv))) (hz : Zc cls d oe) (hf : ∃ vs, oe.data = .fields vs) :
    PSs ((cxOf CX0 P w K mg base n_L_word "_law_word" (defScope s_L_word) f cdv A outer s H E).nox.suite a ((a, oe) :: pn)) (suiteB (defBody s_L_word)) (rd_L_word_suite K C cA a cls d) := by
  have nd : n_L_word.Nodup := sc_L_word.nd
  have hu := hu65 hr
  exact (pss_cons (ps_set (i := 2) nd rfl (Or.inl rfl) (pe_lst (pa_cons (pe_callB (call_isEx W.xc hz hf) (by rfl) T.b_isinstance (by decide +kernel) (pa_cons (pv 1) (pa_cons (pe_glob (by rfl) W.c_BadCells rfl) pa_nil))) (pa_cons (pe_callB (call_isEx W.xc hz hf) (by rfl) T.b_isinstance (by decide +kernel) (pa_cons (pv 1) (pa_cons (pe_glob (by rfl) W.c_BadGoal rfl) pa_nil))) (pa_cons (pe_callB (call_isEx W.xc hz hf) (by rfl) T.b_isinstance (by decide +kernel) (pa_cons (pv 1) (pa_cons (pe_glob (by rfl) W.c_BadStep rfl) pa_nil))) (pa_cons (pe_callB (call_isEx W.xc hz hf) (by rfl) T.b_isinstance (by decide +kernel) (pa_cons (pv 1) (pa_cons (pe_glob (by rfl) W.c_BadPaper rfl) pa_nil))) pa_nil)))))) (pss_cons (ps_set (i := 2) nd rfl (Or.inl rfl) (pe_op op_addX (pv 2) (pe_lst (pa_cons (pe_callB (call_isEx W.xc hz hf) (by rfl) T.b_isinstance (by decide +kernel) (pa_cons (pv 1) (pa_cons (pe_glob (by rfl) W.c_BadHall rfl) pa_nil))) (pa_cons (pe_callB (call_isEx W.xc hz hf) (by rfl) T.b_isinstance (by decide +kernel) (pa_cons (pv 1) (pa_cons (pe_glob (by rfl) W.c_Halted rfl) pa_nil))) (pa_cons (pe_callB (call_isEx W.xc hz hf) (by rfl) T.b_isinstance (by decide +kernel) (pa_cons (pv 1) (pa_cons (pe_glob (by rfl) W.c_BadText rfl) pa_nil))) pa_nil)))))) (pss_cons (ps_set (i := 2) nd rfl (Or.inl rfl) (pe_op op_addX (pv 2) (pe_lst (pa_cons (pe_callB (call_isEx W.xc hz hf) (by rfl) T.b_isinstance (by decide +kernel) (pa_cons (pv 1) (pa_cons (pe_glob (by rfl) W.c_BadCount rfl) pa_nil))) (pa_cons (pe_callB (call_isEx W.xc hz hf) (by rfl) T.b_isinstance (by decide +kernel) (pa_cons (pv 1) (pa_cons (pe_glob (by rfl) W.c_TooMany rfl) pa_nil))) (pa_cons (pe_callB (call_isEx W.xc hz hf) (by rfl) T.b_isinstance (by decide +kernel) (pa_cons (pv 1) (pa_cons (pe_glob (by rfl) W.c_Meets rfl) pa_nil))) pa_nil)))))) (pss_cons (ps_set (i := 2) nd rfl (Or.inl rfl) (pe_op op_addX (pv 2) (pe_lst (pa_cons (pe_callB (call_isEx W.xc hz hf) (by rfl) T.b_isinstance (by decide +kernel) (pa_cons (pv 1) (pa_cons (pe_glob (by rfl) W.c_BadName rfl) pa_nil))) (pa_cons (pe_callB (call_isEx W.xc hz hf) (by rfl) T.b_isinstance (by decide +kernel) (pa_cons (pv 1) (pa_cons (pe_glob (by rfl) W.c_NoPoint rfl) pa_nil))) pa_nil))))) (pss_cons (ps_if (PW.pt (pw_or (pt_cmpR (op_neD hr.units) (pe_bm PySem.F.plainAttrs_list PySem.F.slot_list_count PySem.F.type_list_count (mt_countD hu) (pv 2) (pa_cons pe_bl pa_nil)) pe_int (nomark _)) (pw_or1 (pt_not (pt_val (pe_callB (call_isEx W.xc hz hf) (by rfl) T.b_isinstance (by decide +kernel) (pa_cons (pv 1) (pa_cons (pe_bltn (v := .ty "ValueError") (by rfl) W.b_ValueError (by decide +kernel) rfl) pa_nil)))))))) (pss_one (ps_ret (pe_tup (pa_cons pe_str pa_nil)))) pss_nil) (pss_cons (ps_set (i := 3) nd rfl (Or.inl rfl) (pe_bm PySem.F.plainAttrs_list PySem.F.slot_list_index PySem.F.type_list_index (mt_indexD hu) (pv 2) (pa_cons pe_bl pa_nil))) (pss_cons (ps_if (pt_cmpR op_lt (pv 3) pe_int (nomark _)) (pss_one (ps_ret (pe_tup (pa_cons (pe_ix ix_seq (pe_lst (pa_cons pe_str (pa_cons pe_str (pa_cons pe_str (pa_cons pe_str pa_nil))))) (pv 3) (fun _ _ => rfl)) (pa_cons (pe_xf W.xf W.n_number hz hf (pv 1)) pa_nil))))) pss_nil) (pss_cons (ps_if (pt_cmpR (op_eqD hr.units) (pv 3) pe_int (nomark _)) (pss_one (ps_ret (pe_tup (pa_cons pe_str (pa_cons (pe_xf W.xf W.n_part hz hf (pv 1)) (pa_cons (pe_xf W.xf W.n_number hz hf (pv 1)) pa_nil)))))) pss_nil) (pss_cons (ps_if (pt_cmpR op_lt (pv 3) pe_int (nomark _)) (pss_one (ps_ret (pe_ifExp (pt_cmpR (op_eqD hr.units) (pv 3) pe_int (nomark _)) (pe_tup (pa_cons pe_str (pa_cons (pe_xf W.xf W.n_number hz hf (pv 1)) (pa_cons (pe_xf W.xf W.n_done hz hf (pv 1)) pa_nil)))) (pe_tup (pa_cons pe_str (pa_cons (pe_xf W.xf W.n_row hz hf (pv 1)) pa_nil)))))) pss_nil) (pss_one (ps_ret (pe_tup (pa_cons (pe_ix ix_seq (pe_lst (pa_cons pe_str (pa_cons pe_str (pa_cons pe_str (pa_cons pe_str (pa_cons pe_str pa_nil)))))) (pe_op op_sub (pv 3) pe_int) (fun _ _ => rfl)) pa_nil)))))))))))))

end Pd
/-! WordX -/
set_option Elab.async false
set_option linter.all false
set_option maxRecDepth 100000
set_option maxHeartbeats 4000000
/-! what the law's word tells of any kind of exception with fields -/
namespace Pd
variable [Pd.Wd]
open PySem PySem.Spec PyProof.Rows L2
structure Sx (ie : Nat) (a dd : Addr) (n : List (Str × V)) (σ : L2.St) (B H : Hp) (ρ : Rho) : Prop where
  t : Ex B H
  e : EnvD σ B ρ
  s : σ[ie]? = some (some (.ref a))
  d : H dd = some (.xd n)
section
variable {K : PySem.W.Frag} {ie : Nat} {a dd C : Addr} {n : List (Str × V)} {cls : Value} {dc : Option Addr} {σ : L2.St} {B H : Hp} {ρ : Rho} {te tb : TE} {tt tu : TT} {ta : TA} {z d e : PyData} {ds : List PyData}
theorem Sx.gr {B' H' : Hp} (x : Sx ie a dd n σ B H ρ) (g : Gr B H B' H') : Sx ie a dd n σ B' H' ρ := ⟨g.t, x.e.mono g.b, x.s, g.h _ _ x.d⟩
def EX (ie : Nat) (a dd : Addr) (n : List (Str × V)) (te : TE) (ρ : Rho) (z : PyData) : Prop := ∀ σ B H, Sx ie a dd n σ B H ρ → ∀ Q : VK, (∀ v B' H', Gr B H B' H' → DH B' v z → Q v H') → te σ H Q
def EXA (ie : Nat) (a dd : Addr) (n : List (Str × V)) (ta : TA) (ρ : Rho) (ds : List PyData) : Prop := ∀ σ B H, Sx ie a dd n σ B H ρ → ∀ Q : List V → Hp → Prop, (∀ vs B' H', Gr B H B' H' → DHs B' vs ds → Q vs H') → ta σ H Q
def XT (ie : Nat) (a dd : Addr) (n : List (Str × V)) (tt : TT) (ρ : Rho) (b : Bool) : Prop := ∀ σ B H, Sx ie a dd n σ B H ρ → ∀ Q : Bool → Hp → Prop, (∀ B' H', Gr B H B' H' → Q b H') → tt σ H Q
theorem ex_ed (h : ED te ρ z) : EX ie a dd n te ρ z := fun σ B H x Q q => h σ B H x.t x.e Q q
theorem ex_is {c : V} {cv : Value} {b : Bool} (h1 : cls = .ref C) (h2 : dc = some dd) (hcv : ∀ u, RelV c u → u = cv) (hk : PySem.W.kitOne K (.ref C) cv = some b) : EX ie a dd n (tCB (rIsEx K C a cls dc) (tCons (tVar ie) (tCons (tC c) tNil))) ρ (.bool b) := fun σ B H x Q q =>
  ⟨.ref a, x.s, h1, dd, h2, c, cv, b, _, rfl, hcv, hk, x.d, q _ B H (Gr.refl x.t) (.bl b)⟩
theorem ex_xf {f : Str} {i : Int} (h1 : cls = .ref C) (h2 : dc = some dd) (hf : n.lookup f = some (.int i)) : EX ie a dd n (tXf a cls dc C f (tVar ie)) ρ (.int i) := fun σ B H x Q q =>
  ⟨.ref a, x.s, rfl, h1, dd, _, .int i, h2, x.d, hf, q _ B H (Gr.refl x.t) (.int i)⟩
theorem exa_nil : EXA ie a dd n tNil ρ [] := fun σ B H x Q q => q [] B H (Gr.refl x.t) .nil
theorem exa_cons (h : EX ie a dd n te ρ z) (k : EXA ie a dd n ta ρ ds) : EXA ie a dd n (tCons te ta) ρ (z :: ds) := fun σ B H x Q q => by
  refine h σ B H x _ fun v B1 H1 g1 d1 => ?_
  refine k σ B1 H1 (x.gr g1) _ fun vs B2 H2 g2 d2 => ?_
  exact q _ B2 H2 (g1.trans g2) (.cons (d1.mono g2.b) d2)
theorem ex_lst (h : EXA ie a dd n ta ρ ds) (hl : ds.length ≤ 1000) : EX ie a dd n (tLst ta) ρ (.list ds) := fun σ B H x Q q => by
  refine h σ B H x _ fun xs B1 H1 g1 d1 => ⟨?_, fun p hp => ?_⟩
  · rw [d1.length]
    exact Nat.le_trans hl (by decide)
  · have g2 := Gr.new (o := .lst xs) g1.t hp
    exact q _ _ _ (g1.trans g2) (.lst upd_same (d1.mono g2.b))
theorem ex_tup (h : EXA ie a dd n ta ρ ds) (hl : ds.length ≤ 1000) : EX ie a dd n (tTup ta) ρ (.tuple ds) := fun σ B H x Q q => by
  refine h σ B H x _ fun xs B1 H1 g1 d1 => ⟨?_, fun p hp => ?_⟩
  · rw [d1.length]
    exact Nat.le_trans hl (by decide)
  · have g2 := Gr.new (o := .tup xs) g1.t hp
    exact q _ _ _ (g1.trans g2) (.tup upd_same (d1.mono g2.b))
theorem ex_op {rr : R2} (ha : EX ie a dd n te ρ d) (hb : EX ie a dd n tb ρ e) (hr : RD2 rr d e z) : EX ie a dd n (tOp rr te tb) ρ z := fun σ B H x Q q => by
  refine ha σ B H x _ fun v B1 H1 g1 d1 => ?_
  refine hb σ B1 H1 (x.gr g1) _ fun w B2 H2 g2 d2 => ?_
  exact hr B2 H2 v w g2.t (d1.mono g2.b) d2 Q fun u B' H' g3 d3 => q u B' H' ((g1.trans g2).trans g3) d3
theorem xt_test {b : Bool} (h : EX ie a dd n te ρ (.bool b)) : XT ie a dd n (tTest te) ρ b := fun σ B H x Q q => by
  refine h σ B H x _ fun v B1 H1 g1 d1 => ?_
  cases d1
  exact ⟨b, rfl, q B1 H1 g1⟩
theorem xt_not {b : Bool} (h : XT ie a dd n tt ρ b) : XT ie a dd n (tNot tt) ρ (!b) := fun σ B H x Q q => h σ B H x _ fun B1 H1 g1 => q B1 H1 g1
theorem xt_or {b c : Bool} (h : XT ie a dd n tt ρ b) (k : b = false → XT ie a dd n tu ρ c) : XT ie a dd n (tOr tt tu) ρ (b || c) := fun σ B H x Q q => by
  refine h σ B H x _ fun B1 H1 g1 => ?_
  cases b with
  | true => exact q B1 H1 g1
  | false => exact k rfl σ B1 H1 (x.gr g1) Q fun B' H' g3 => q B' H' (g1.trans g3)
/-- behind an assignment; B1 H1: where the suite began -/
theorem sx_asg {i : Nat} {D : Ends} {B1 H1 : Hp} (x : Sx ie a dd n σ B H ρ) (g : Gr B1 H1 B H) (h : EX ie a dd n te ρ z) (hi : i ≠ ie) (k : ∀ σ B H, Sx ie a dd n σ B H (ρ.set i (some z)) → Gr B1 H1 B H → D.nx σ H) : tAsg te (gName i) D σ H :=
  h σ B H x _ fun v B' H' g' dv => k _ B' H' ⟨g'.t, (x.e.mono g'.b).set i dv, by rw [List.getElem?_set_ne hi]; exact x.s, g'.h _ _ x.d⟩ (g.trans g')
theorem sx_if {b : Bool} {t u : TS} {D : Ends} {B1 H1 : Hp} (x : Sx ie a dd n σ B H ρ) (g : Gr B1 H1 B H) (h : XT ie a dd n tt ρ b) (h1 : b = true → ∀ B H, Sx ie a dd n σ B H ρ → Gr B1 H1 B H → t D σ H) (h2 : b = false → ∀ B H, Sx ie a dd n σ B H ρ → Gr B1 H1 B H → u D σ H) : tIfS tt t u D σ H := by
  refine h σ B H x _ fun B' H' g' => ?_
  cases b with
  | true => exact h1 rfl B' H' (x.gr g') (g.trans g')
  | false => exact h2 rfl B' H' (x.gr g') (g.trans g')
theorem ed_count {to : TE} (h : ED to ρ (.list ds)) (hd : ED te ρ d) (sl : SeqAt.shaped (.list ds) = true) (sd : SeqAt.shaped d = true) : ED (tBM K "list" (rCountD K) to (tCons te tNil)) ρ (.int (ds.countP fun z => PyData.eqv z d : Nat)) := fun σ B H ex ev Q q => by
  refine h σ B H ex ev _ fun v B1 H1 g1 d1 => ?_
  cases d1 with
  | @lst p xs _ ha hs =>
    refine ⟨.inl ⟨rfl, _, SqL.of (g1.t _ _ ha)⟩, ?_⟩
    refine hd σ B1 H1 g1.t (ev.mono g1.b) _ fun w B2 H2 g2 d2 => ?_
    exact ⟨p, w, d, ds, rfl, rfl, ((DH.lst ha hs).mono (g2.b.trans g2.t)).dp (SeqAt.canLay_of_shaped sl), (d2.mono g2.t).dp (SeqAt.canLay_of_shaped sd), sl, sd, q _ B2 H2 (g1.trans g2) (.int _)⟩
end
structure KindX (K : PySem.W.Frag) (C CH : Addr) (cA : Str → Addr) (i : Nat) : Prop where
  lt : i < 12
  k : ∀ (j : Nat) (x : Str), KN[j]? = some x → PySem.W.kitOne K (.ref C) (.ref (cA x)) = some (decide (j = i))
  kv : PySem.W.kitOne K (.ref C) (.type "ValueError") = some true
  ex : PySem.W.exmOne K (.ref C) (.ref CH) = some true
/-- what is told of an exception of kind i with these fields -/
inductive ToldW : Nat → List (Str × V) → PyData → Prop
  | num (i : Nat) (x : Str) (fs : List (Str × V)) (n : Int) (hi : i < 4) (hx : (["cells", "goal", "step", "paper"] : List Str)[i]? = some x) (h : fs.lookup ("number" : Str) = some (V.int n)) : ToldW i fs (.tuple [.str x, .int n])
  | hall (fs : List (Str × V)) (p n : Int) (h1 : fs.lookup ("part" : Str) = some (V.int p)) (h2 : fs.lookup ("number" : Str) = some (V.int n)) : ToldW 4 fs (.tuple [.str "hall", .int p, .int n])
  | halt (fs : List (Str × V)) (n m : Int) (h1 : fs.lookup ("number" : Str) = some (V.int n)) (h2 : fs.lookup ("done" : Str) = some (V.int m)) : ToldW 5 fs (.tuple [.str "halted", .int n, .int m])
  | text (fs : List (Str × V)) (n : Int) (h : fs.lookup ("row" : Str) = some (V.int n)) : ToldW 6 fs (.tuple [.str "text", .int n])
def bI (j i : Nat) : PyData := .bool (decide (j = i))
def kn1 (i : Nat) : List PyData := [bI 0 i, bI 1 i, bI 2 i, bI 3 i]
def kn2 (i : Nat) : List PyData := kn1 i ++ [bI 4 i, bI 5 i, bI 6 i]
def kn3 (i : Nat) : List PyData := kn2 i ++ [bI 7 i, bI 8 i, bI 9 i]
def kn4 (i : Nat) : List PyData := kn3 i ++ [bI 10 i, bI 11 i]
theorem kn4_get (i m : Nat) (hm : m < 12) : (kn4 i)[m]? = some (bI m i) := by
  have : m = 0 ∨ m = 1 ∨ m = 2 ∨ m = 3 ∨ m = 4 ∨ m = 5 ∨ m = 6 ∨ m = 7 ∨ m = 8 ∨ m = 9 ∨ m = 10 ∨ m = 11 := by omega
  rcases this with rfl | rfl | rfl | rfl | rfl | rfl | rfl | rfl | rfl | rfl | rfl | rfl <;> rfl
theorem sh_kn (i : Nat) : SeqAt.shaped (.list (kn4 i)) = true := by
  refine shaped_of ?_ ?_
  · simp [kn4, kn3, kn2, kn1, bI, PyData.canLay0, PyData.canLayAll0]
  · simp [kn4, kn3, kn2, kn1, bI, PyData.depth, PyData.depthAll]
theorem cnt_kn (i : Nat) (hi : i < 12) : List.countP (fun z => PyData.eqv z (.bool true)) (kn4 i) = 1 := by
  have : i = 0 ∨ i = 1 ∨ i = 2 ∨ i = 3 ∨ i = 4 ∨ i = 5 ∨ i = 6 ∨ i = 7 ∨ i = 8 ∨ i = 9 ∨ i = 10 ∨ i = 11 := by omega
  rcases this with rfl | rfl | rfl | rfl | rfl | rfl | rfl | rfl | rfl | rfl | rfl | rfl <;> simp [kn4, kn3, kn2, kn1, bI, List.countP_cons, eqv_bool]
theorem word_suiteX {K : PySem.W.Frag} {a dd C CH : Addr} {cA : Str → Addr} {i : Nat} {n : List (Str × V)} {z : PyData} {cls : Value} {dc : Option Addr} {σ : L2.St} {B H : Hp} {D : Ends} (O : KindX K C CH cA i) (hz : ToldW i n z) (h1 : cls = .ref C) (h2 : dc = some dd) (x : Sx 1 a dd n σ B H [none, none, none, none])
    (q : ∀ v B' H', Gr B H B' H' → DH B' v z → D.rt v H') : rd_L_word_suite K C cA a cls dc D σ H := by
  have ki : ∀ (j : Nat) {y : Str} {ρ : Rho}, KN[j]? = some y → EX 1 a dd n (tCB (rIsEx K C a cls dc) (tCons (tVar 1) (tCons (tC (.ref (cA y))) tNil))) ρ (bI j i) :=
    fun j {y ρ} hy => ex_is h1 h2 (fun u r => r) (O.k j y hy)
  have kv : ∀ {ρ : Rho}, EX 1 a dd n (tCB (rIsEx K C a cls dc) (tCons (tVar 1) (tCons (tC (.ty "ValueError")) tNil))) ρ (.bool true) := fun {ρ} => ex_is h1 h2 (fun u r => r) O.kv
  have hi := O.lt
  have g : Gr B H B H := Gr.refl x.t
  unfold rd_L_word_suite
  refine go_seq ?_
  refine sx_asg x g (ex_lst (ds := kn1 i) (exa_cons (ki 0 rfl) (exa_cons (ki 1 rfl) (exa_cons (ki 2 rfl) (exa_cons (ki 3 rfl) exa_nil)))) (by simp [kn1])) (by decide) fun σ B2 H2 x g => ?_
  have x : Sx 1 a dd n σ B2 H2 [none, none, some (.list (kn1 i)), none] := x
  try dsimp only
  refine go_seq ?_
  refine sx_asg x g (ex_op (ex_ed (ed_var (d := .list (kn1 i)) rfl)) (ex_lst (ds := [bI 4 i, bI 5 i, bI 6 i]) (exa_cons (ki 4 rfl) (exa_cons (ki 5 rfl) (exa_cons (ki 6 rfl) exa_nil))) (by simp)) (r2_catL (by simp [kn1]))) (by decide) fun σ B2 H2 x g => ?_
  have x : Sx 1 a dd n σ B2 H2 [none, none, some (.list (kn2 i)), none] := x
  try dsimp only
  refine go_seq ?_
  refine sx_asg x g (ex_op (ex_ed (ed_var (d := .list (kn2 i)) rfl)) (ex_lst (ds := [bI 7 i, bI 8 i, bI 9 i]) (exa_cons (ki 7 rfl) (exa_cons (ki 8 rfl) (exa_cons (ki 9 rfl) exa_nil))) (by simp)) (r2_catL (by simp [kn1, kn2]))) (by decide) fun σ B2 H2 x g => ?_
  have x : Sx 1 a dd n σ B2 H2 [none, none, some (.list (kn3 i)), none] := x
  try dsimp only
  refine go_seq ?_
  refine sx_asg x g (ex_op (ex_ed (ed_var (d := .list (kn3 i)) rfl)) (ex_lst (ds := [bI 10 i, bI 11 i]) (exa_cons (ki 10 rfl) (exa_cons (ki 11 rfl) exa_nil)) (by simp)) (r2_catL (by simp [kn1, kn2, kn3]))) (by decide) fun σ B2 H2 x g => ?_
  have x : Sx 1 a dd n σ B2 H2 [none, none, some (.list (kn4 i)), none] := x
  try dsimp only
  refine go_seq ?_
  have hcnt : ED (tBM K "list" (rCountD K) (tVar 2) (tCons (tC (.bl true)) tNil)) [none, none, some (.list (kn4 i)), none] (.int 1) := ED.is (ed_count (ed_var (d := .list (kn4 i)) rfl) ed_bl (sh_kn i) (sh_bool true)) (congrArg (fun k : Nat => PyData.int (k : Int)) (cnt_kn i hi))
  have hne : ED (tOp (rNeD K) (tBM K "list" (rCountD K) (tVar 2) (tCons (tC (.bl true)) tNil)) (tC (.int 1))) [none, none, some (.list (kn4 i)), none] (.bool (!PyData.eqv (.int 1) (.int 1))) := ed_op hcnt ed_int (r2_ne (sh_int 1) (sh_int 1))
  have e0 : (!PyData.eqv (.int 1) (.int 1) || !true) = false := by
    rw [eqv_int]
    decide
  have ht : XT 1 a dd n (tOr (tTest (tOp (rNeD K) (tBM K "list" (rCountD K) (tVar 2) (tCons (tC (.bl true)) tNil)) (tC (.int 1)))) (tNot (tB (tCB (rIsEx K C a cls dc) (tCons (tVar 1) (tCons (tC (.ty "ValueError")) tNil)))))) [none, none, some (.list (kn4 i)), none] false := by
    rw [← e0]
    exact xt_or (xt_test (ex_ed hne)) (fun _ => xt_not (xt_test kv))
  refine sx_if (b := false) x g ht (fun z => nomatch z) (fun _ B2 H2 x g => ?_)
  try dsimp only
  refine go_seq ?_
  refine sx_asg x g (ex_ed (ed_index (j := i) (z := bI i i) (ed_var (d := .list (kn4 i)) rfl) ed_bl (sh_kn i) (sh_bool true) (kn4_get i i hi) (by unfold bI; rw [eqv_bool]; simp) (fun m z hm hz => ?_))) (by decide) fun σ B2 H2 x g => ?_
  · rw [kn4_get i m (by omega)] at hz
    cases hz
    unfold bI
    rw [eqv_bool]
    have : m ≠ i := by omega
    simp [this]
  have x : Sx 1 a dd n σ B2 H2 [none, none, some (.list (kn4 i)), some (.int (i : Nat))] := x
  try dsimp only
  refine go_seq ?_
  have vi : ∀ {ρ : Rho}, ρ[3]? = some (some (.int (i : Nat))) → ED (tVar 3) ρ (.int (i : Nat)) := fun h => ed_var h
  have lt4 : ∀ k : Int, XT 1 a dd n (tTest (tOp rLtI (tVar 3) (tC (.int k)))) [none, none, some (.list (kn4 i)), some (.int (i : Nat))] (decide (((i : Nat) : Int) < k)) := fun k => xt_test (ex_ed (ed_op (vi rfl) ed_int r2_lt))
  have eqk : ∀ k : Int, XT 1 a dd n (tTest (tOp (rEqD K) (tVar 3) (tC (.int k)))) [none, none, some (.list (kn4 i)), some (.int (i : Nat))] (decide (((i : Nat) : Int) = k)) := fun k => xt_test (ex_ed (ED.is (ed_op (vi rfl) ed_int (r2_eq (sh_int _) (sh_int _))) (by rw [eqv_int])))
  refine sx_if x g (lt4 4) (fun hb B2 H2 x g => ?_) (fun hb B2 H2 x g => ?_)
  · cases hz with
    | num i y fs m hi4 hy hl =>
      refine ex_tup (exa_cons (ex_ed (ED.is (ed_op (ed_lst (ds := [.str "cells", .str "goal", .str "step", .str "paper"]) (ea_cons ed_str (ea_cons ed_str (ea_cons ed_str (ea_cons ed_str ea_nil)))) (by simp)) (vi rfl) (r2_ixL (d := .str y) (atI_nat (by have e := congrArg (Option.map PyData.str) hy; rw [← List.getElem?_map] at e; exact e)))) rfl)) (exa_cons (ex_xf h1 h2 hl) exa_nil)) (by simp) σ B2 H2 x _ fun v B' H' g' dv => q v B' H' (g.trans g') dv
    | hall fs p m a1 a2 => simp at hb
    | halt fs p m a1 a2 => simp at hb
    | text fs m a1 => simp at hb
  · unfold tNext
    dsimp only
    refine go_seq ?_
    cases hz with
    | num i y fs m hi4 hy hl => simp at hb; omega
    | hall fs p m a1 a2 =>
      refine sx_if (b := true) x g (eqk 4) (fun hb B2 H2 x g => ?_) (fun z => nomatch z)
      exact ex_tup (exa_cons (ex_ed ed_str) (exa_cons (ex_xf h1 h2 a1) (exa_cons (ex_xf h1 h2 a2) exa_nil))) (by simp) σ B2 H2 x _ fun v B' H' g' dv => q v B' H' (g.trans g') dv
    | halt fs p m a1 a2 =>
      refine sx_if (b := false) x g (eqk 4) (fun z => nomatch z) (fun _ B2 H2 x g => ?_)
      dsimp only
      refine go_seq ?_
      refine sx_if (b := true) x g (lt4 7) (fun _ B2 H2 x g => ?_) (fun z => nomatch z)
      refine (eqk 5) σ B2 H2 x _ fun B3 H3 g3 => ?_
      rw [if_pos (by decide)]
      exact ex_tup (exa_cons (ex_ed ed_str) (exa_cons (ex_xf h1 h2 a1) (exa_cons (ex_xf h1 h2 a2) exa_nil))) (by simp) σ B3 H3 (x.gr g3) _ fun v B' H' g' dv => q v B' H' ((g.trans g3).trans g') dv
    | text fs m a1 =>
      refine sx_if (b := false) x g (eqk 4) (fun z => nomatch z) (fun _ B2 H2 x g => ?_)
      dsimp only
      refine go_seq ?_
      refine sx_if (b := true) x g (lt4 7) (fun _ B2 H2 x g => ?_) (fun z => nomatch z)
      refine (eqk 5) σ B2 H2 x _ fun B3 H3 g3 => ?_
      rw [if_neg (by decide)]
      exact ex_tup (exa_cons (ex_ed ed_str) (exa_cons (ex_xf h1 h2 a1) exa_nil)) (by simp) σ B3 H3 (x.gr g3) _ fun v B' H' g' dv => q v B' H' ((g.trans g3).trans g') dv
end Pd
/-! WordG01 -/
set_option Elab.async false
set_option linter.all false
set_option maxRecDepth 100000
set_option maxHeartbeats 4000000
namespace Pd
variable [Pd.Wd]
open PySem PySem.Spec PyProof.Rows L2 LamX
/-- what the law's word makes of what it calls -/
def TTX (K : PySem.W.Frag) (mg : Str → Option Value) (CH : Addr) (cA : Str → Addr) : (XK → Hp → VK → Prop) → Hp → VK → Prop := fun tl H Q =>
  tl (fun cls d H' => ∃ (C : Addr) (i : Nat) (dd : Addr) (fs : List (Str × V)) (z : PyData) (B' : Hp), cls = .ref C ∧ WordS K mg C CH cA ∧ KindX K C CH cA i ∧ d = some dd ∧ H' dd = some (.xd fs) ∧ ToldW i fs z ∧ Ex B' H' ∧ ∀ v B'' H'', Gr B' H' B'' H'' → DH B'' v z → Q v H'') H (fun _ H1 => Q .non H1)
theorem takes_lenX {X : Cx} {W : WX} (tk : Takes X W) : Takes X (fun c d σ H => σ.length = X.N.length → W c d σ H) := fun u s' ⟨a, B, sI, pins, σ, H, cls, d, e, I, nb, up, sky, na, os, ag, w⟩ => tk u s' ⟨a, B, sI, pins, σ, H, cls, d, e, I, nb, up, sky, na, os, ag, w I.len⟩
theorem word_givesX {X : Cx} {aWAYS aWAYS_TURNED aWAYS_MIRRORED CH g : Addr} {cA : Str → Addr} {cdg : Value} {q : Str} (T : Txt X.K X.mg X.w aWAYS aWAYS_TURNED aWAYS_MIRRORED) (hall : X.mg "HallError" = some (.ref CH))
    (hr : ∀ s : Shared, Room 0 (X.A.deeper (envOfC "_law_word" (defScope s_L_word) s.heap.objs.size g cdg))) : GivesTo X n_L_word "_law_word" (defScope s_L_word) g cdg (defBody s_L_word) "_law_work" q (TTX X.K X.mg CH cA) := by
  intro f c' s H Q tl act hc h
  have nd : n_L_word.Nodup := sc_L_word.nd
  refine ⟨_, pss_cons (ps_try_as (X := (cxOf C8.CX0 X.prog X.w X.K X.mg X.base n_L_word "_law_word" (defScope s_L_word) g cdg X.A X.stack s H C8.E0).nox) (i := 1) (c := .ref CH)
      (tb := fun W D σ H => ∃ Ech : XK, (∀ cls d σ' H', σ'.length = 4 → Ech cls d H' → W cls d σ' H') ∧ σ[0]? = some (some (.ref f)) ∧ H c' = some (CodeO c' q) ∧ tl Ech H fun _ H1 => D.nx σ H1)
      (ts := fun a cls d D σ H => ∃ C, WordS X.K X.mg C CH cA ∧ rd_L_word_suite X.K C cA a cls d D σ H)
      rfl rfl nd rfl rfl ⟨rfl, by decide, .inl hall⟩ LamX.takes0 (fun W pn xe tk _ => ?_) (fun a oe cls d pn hz hf => ?_)) (pss_one (ps_ret pe_non)), ?_⟩
  · refine ⟨fun pins s' σ H' D I h' => ?_⟩
    obtain ⟨Ech, hW, h1, h2, h3⟩ := h'
    exact (pss_one (ps_expr (act _ pn xe Ech _ _ (takes_lenX tk) (fun cls d σ' H' e hl => hW cls d σ' H' hl e)))).run pins s' σ H' D I ⟨h1, h2, h3⟩
  · refine ⟨fun pins s' σ H' D I h' => ?_⟩
    obtain ⟨C, hW, h'⟩ := h'
    exact (bd_L_word_suite T hW (hr s) hz hf).run pins s' σ H' D I h'
  · refine ⟨fun cls d H' => ∃ (C : Addr) (i : Nat) (dd : Addr) (fs : List (Str × V)) (z : PyData) (B' : Hp), cls = .ref C ∧ WordS X.K X.mg C CH cA ∧ KindX X.K C CH cA i ∧ d = some dd ∧ H' dd = some (.xd fs) ∧ ToldW i fs z ∧ Ex B' H' ∧ ∀ v B'' H'', Gr B' H' B'' H'' → DH B'' v z → Q v H'', fun cls d σ' H' hl ⟨C, i, dd, fs, z, B', e1, hW, O, e2, e3, hz, ex, k⟩ => ?_, rfl, hc, ?_⟩
    · refine ⟨true, by rw [e1]; exact O.ex, fun _ a ha => ?_, fun z => nomatch z⟩
      refine ⟨C, hW, word_suiteX O hz e1 e2 ⟨ex, ⟨by rw [List.length_set]; exact hl, fun i d hd => ?_⟩, List.getElem?_set_self (by rw [hl]; decide), e3⟩ k⟩
      have : i = 0 ∨ i = 1 ∨ i = 2 ∨ i = 3 ∨ 4 ≤ i := by omega
      rcases this with rfl | rfl | rfl | rfl | h4
      · simp at hd
      · simp at hd
      · simp at hd
      · simp at hd
      · rw [List.getElem?_eq_none (by simpa using h4)] at hd
        cases hd
    · exact h
/-- the def of the law's word -/
structure WordD (K : PySem.W.Frag) (mg : Str → Option Value) : Prop where
  ex : ∃ (g : Addr) (oc : Value) (od : Option Addr) (dV kV doc pm ct : Value) (an : Option Addr) (cdv : Value) (osl : Array (Option Value)), mg "_law_word" = some (.ref g) ∧ PySem.W.keepIn K (.ref g) = true ∧
    K.lookup g = some ⟨oc, od, .func (PySem.W.fnOf "_law_word" "_law_word" (defArgs s_L_word) (defBody s_L_word) (defScope s_L_word) dV kV doc pm an cdv ct), osl⟩ ∧ PySem.W.codeIn K cdv "_law_word" = true ∧
    L2.Binds K (PySem.W.fnOf "_law_word" "_law_word" (defArgs s_L_word) (defBody s_L_word) (defScope s_L_word) dV kV doc pm an cdv ct) ["_law_work"] []
abbrev lawT (PT PW : Addr) : List (Addr × Str) := [(PT, nmL "law"), (PW, nmL "_law_works")]
theorem lawT_1 {PT PW : Addr} (h : PT ≠ PW) : ∀ p ∈ lawT PT PW, p.1 = PT → p.2 = nmL "law" := fun p hp e => by
  rcases List.mem_cons.mp hp with rfl | hp
  · rfl
  · rw [List.mem_singleton.mp hp] at e
    exact absurd e.symm h
theorem lawT_2 {PT PW : Addr} (h : PT ≠ PW) : ∀ p ∈ lawT PT PW, p.1 = PW → p.2 = nmL "_law_works" := fun p hp e => by
  rcases List.mem_cons.mp hp with rfl | hp
  · exact absurd e h
  · rw [List.mem_singleton.mp hp]
section
variable {P : Program} {w : World} {K : PySem.W.Frag} {mg : Str → Option Value} {base : Heap} {f c PT PW : Addr} {A : Around} {outer : List Env} {s : Shared} {H : Hp} {E : XK} {aWAYS aWAYS_TURNED aWAYS_MIRRORED CH : Addr} {cA : Str → Addr} {k : Nat} {sx_may : Sp}
theorem pe_lam1 (T : Txt K mg w aWAYS aWAYS_TURNED aWAYS_MIRRORED) (hall : mg "HallError" = some (.ref CH)) (V : DefS P w K mg base (L2.CX P w) k "may" p_may sx_may) (G : WordD K mg)
    (hne : PT ≠ PW) (TB : TabB base mg c PT) (hr : Room (k + 2) (A.deeper (envOfC "law" (defScope s_law) s.heap.objs.size f (.ref c)))) (p lp pos : Pos) :
    PE (cxOf CX0 P w K mg base n_law "law" (defScope s_law) f (.ref c) A outer s H E).nox (.Call (.Name "_law_word" p) [.Lambda lamArgs lam1B lamScope1 lp] [] pos)
      (tLam (lawT PT PW) (TTX K mg CH cA) (fun E => (tCall sx_may [] E (tCons (tVar 10) (tCons (tTup (tCons (tTup (tCons (tC (.int 0)) (tCons (tC (.int 0)) tNil))) tNil)) tNil))))) := by
  obtain ⟨g, oc, od, dV, kV, doc, pm, ct, an, cdv, osl, hm, hk, lk, hcg, hb⟩ := G.ex
  refine pe_lamcall (a := "_law_work") (k := k) (by rfl) hm hk lk hcg hb sc_L_word rfl (.inl rfl) (word_givesX T hall (fun s' => ?_)) TB rfl (.head _) (lawT_1 hne) hr (lamS_by (show lamSB (defScope s_law) lamScope1 = true by decide +kernel)) (by rfl) (fun q cl pm cv ctv => by rfl) (fun A' outer' s' H' E' f' c' hr' => ?_)
  · exact (hr.mono (by omega : 1 ≤ k + 2)).deeper _
  · have tk : Takes (lamCx (cxOf CX0 P w K mg base n_law "law" (defScope s_law) f (.ref c) A outer s H E).nox A' outer' s' H' E' lamScope1 f' c') (fun cls d _ H => E' cls d H) := takes_of rfl rfl rfl rfl
    exact (pe_dcallX V hr' (passes_call tk (fun _ _ _ _ h => h)) (pa_cons (pv 10) (pa_cons (pe_tup (pa_cons (pe_tup (pa_cons pe_int (pa_cons pe_int pa_nil))) pa_nil)) pa_nil)))
theorem pe_lam3 (T : Txt K mg w aWAYS aWAYS_TURNED aWAYS_MIRRORED) (hall : mg "HallError" = some (.ref CH)) (V : DefS P w K mg base (L2.CX P w) k "may" p_may sx_may) (G : WordD K mg)
    (hne : PT ≠ PW) (TB : TabB base mg c PT) (hr : Room (k + 2) (A.deeper (envOfC "law" (defScope s_law) s.heap.objs.size f (.ref c)))) (p lp pos : Pos) :
    PE (cxOf CX0 P w K mg base n_law "law" (defScope s_law) f (.ref c) A outer s H E).nox (.Call (.Name "_law_word" p) [.Lambda lamArgs lam3B lamScope3 lp] [] pos)
      (tLam (lawT PT PW) (TTX K mg CH cA) (fun E => (tCall sx_may [] E (tCons (tVar 8) (tCons (tC (.int 5)) tNil))))) := by
  obtain ⟨g, oc, od, dV, kV, doc, pm, ct, an, cdv, osl, hm, hk, lk, hcg, hb⟩ := G.ex
  refine pe_lamcall (a := "_law_work") (k := k) (by rfl) hm hk lk hcg hb sc_L_word rfl (.inl rfl) (word_givesX T hall (fun s' => ?_)) TB rfl (.head _) (lawT_1 hne) hr (lamS_by (show lamSB (defScope s_law) lamScope3 = true by decide +kernel)) (by rfl) (fun q cl pm cv ctv => by rfl) (fun A' outer' s' H' E' f' c' hr' => ?_)
  · exact (hr.mono (by omega : 1 ≤ k + 2)).deeper _
  · have tk : Takes (lamCx (cxOf CX0 P w K mg base n_law "law" (defScope s_law) f (.ref c) A outer s H E).nox A' outer' s' H' E' lamScope3 f' c') (fun cls d _ H => E' cls d H) := takes_of rfl rfl rfl rfl
    exact (pe_dcallX V hr' (passes_call tk (fun _ _ _ _ h => h)) (pa_cons (pv 8) (pa_cons pe_int pa_nil)))
theorem pe_lam4 (T : Txt K mg w aWAYS aWAYS_TURNED aWAYS_MIRRORED) (hall : mg "HallError" = some (.ref CH)) (V : DefS P w K mg base (L2.CX P w) k "may" p_may sx_may) (G : WordD K mg)
    (hne : PT ≠ PW) (TB : TabB base mg c PT) (hr : Room (k + 2) (A.deeper (envOfC "law" (defScope s_law) s.heap.objs.size f (.ref c)))) (p lp pos : Pos) :
    PE (cxOf CX0 P w K mg base n_law "law" (defScope s_law) f (.ref c) A outer s H E).nox (.Call (.Name "_law_word" p) [.Lambda lamArgs lam4B lamScope4 lp] [] pos)
      (tLam (lawT PT PW) (TTX K mg CH cA) (fun E => (tCall sx_may [] E (tCons (tTup (tCons (tC (.int 5)) (tCons (tC (.int 5)) (tCons (tCB (rTupX K) (tCons (tSl (rSlX K) (tVar 11) tNoPart (tPart (tC (.int 25)))) tNil)) (tCons (tC (.int 5)) tNil))))) (tCons (tC (.int 5)) tNil))))) := by
  obtain ⟨g, oc, od, dV, kV, doc, pm, ct, an, cdv, osl, hm, hk, lk, hcg, hb⟩ := G.ex
  refine pe_lamcall (a := "_law_work") (k := k) (by rfl) hm hk lk hcg hb sc_L_word rfl (.inl rfl) (word_givesX T hall (fun s' => ?_)) TB rfl (.head _) (lawT_1 hne) hr (lamS_by (show lamSB (defScope s_law) lamScope4 = true by decide +kernel)) (by rfl) (fun q cl pm cv ctv => by rfl) (fun A' outer' s' H' E' f' c' hr' => ?_)
  · exact (hr.mono (by omega : 1 ≤ k + 2)).deeper _
  · have tk : Takes (lamCx (cxOf CX0 P w K mg base n_law "law" (defScope s_law) f (.ref c) A outer s H E).nox A' outer' s' H' E' lamScope4 f' c') (fun cls d _ H => E' cls d H) := takes_of rfl rfl rfl rfl
    exact (pe_dcallX V hr' (passes_call tk (fun _ _ _ _ h => h)) (pa_cons (pe_tup (pa_cons pe_int (pa_cons pe_int (pa_cons (pe_callTy call_tuple_of (by rfl) T.b_tuple (by decide +kernel) (pa_cons (pe_slice sl_X (pv 11) po_none (po_some pe_int)) pa_nil)) (pa_cons pe_int pa_nil))))) (pa_cons pe_int pa_nil)))
theorem pe_lam5 (T : Txt K mg w aWAYS aWAYS_TURNED aWAYS_MIRRORED) (hall : mg "HallError" = some (.ref CH)) (V : DefS P w K mg base (L2.CX P w) k "may" p_may sx_may) (G : WordD K mg)
    (hne : PT ≠ PW) (TB : TabB base mg c PT) (hr : Room (k + 2) (A.deeper (envOfC "law" (defScope s_law) s.heap.objs.size f (.ref c)))) (p lp pos : Pos) :
    PE (cxOf CX0 P w K mg base n_law "law" (defScope s_law) f (.ref c) A outer s H E).nox (.Call (.Name "_law_word" p) [.Lambda lamArgs lam5B lamScope5 lp] [] pos)
      (tLam (lawT PT PW) (TTX K mg CH cA) (fun E => (tCall sx_may [] E (tCons (tTup (tCons (tC (.int 5)) (tCons (tC (.int 5)) (tCons (tCB (rTupX K) (tCons (tSl (rSlX K) (tVar 11) tNoPart (tPart (tC (.int 24)))) tNil)) (tCons (tTup tNil) tNil))))) (tCons (tTup (tCons (tTup (tCons (tC (.int 0)) (tCons (tC (.int 0)) tNil))) tNil)) tNil))))) := by
  obtain ⟨g, oc, od, dV, kV, doc, pm, ct, an, cdv, osl, hm, hk, lk, hcg, hb⟩ := G.ex
  refine pe_lamcall (a := "_law_work") (k := k) (by rfl) hm hk lk hcg hb sc_L_word rfl (.inl rfl) (word_givesX T hall (fun s' => ?_)) TB rfl (.head _) (lawT_1 hne) hr (lamS_by (show lamSB (defScope s_law) lamScope5 = true by decide +kernel)) (by rfl) (fun q cl pm cv ctv => by rfl) (fun A' outer' s' H' E' f' c' hr' => ?_)
  · exact (hr.mono (by omega : 1 ≤ k + 2)).deeper _
  · have tk : Takes (lamCx (cxOf CX0 P w K mg base n_law "law" (defScope s_law) f (.ref c) A outer s H E).nox A' outer' s' H' E' lamScope5 f' c') (fun cls d _ H => E' cls d H) := takes_of rfl rfl rfl rfl
    exact (pe_dcallX V hr' (passes_call tk (fun _ _ _ _ h => h)) (pa_cons (pe_tup (pa_cons pe_int (pa_cons pe_int (pa_cons (pe_callTy call_tuple_of (by rfl) T.b_tuple (by decide +kernel) (pa_cons (pe_slice sl_X (pv 11) po_none (po_some pe_int)) pa_nil)) (pa_cons (pe_tup pa_nil) pa_nil))))) (pa_cons (pe_tup (pa_cons (pe_tup (pa_cons pe_int (pa_cons pe_int pa_nil))) pa_nil)) pa_nil)))
theorem pe_lam6 (T : Txt K mg w aWAYS aWAYS_TURNED aWAYS_MIRRORED) (hall : mg "HallError" = some (.ref CH)) (V : DefS P w K mg base (L2.CX P w) k "may" p_may sx_may) (G : WordD K mg)
    (hne : PT ≠ PW) (TB : TabB base mg c PT) (hr : Room (k + 2) (A.deeper (envOfC "law" (defScope s_law) s.heap.objs.size f (.ref c)))) (p lp pos : Pos) :
    PE (cxOf CX0 P w K mg base n_law "law" (defScope s_law) f (.ref c) A outer s H E).nox (.Call (.Name "_law_word" p) [.Lambda lamArgs lam6B lamScope6 lp] [] pos)
      (tLam (lawT PT PW) (TTX K mg CH cA) (fun E => (tCall sx_may [] E (tCons (tTup (tCons (tC (.int 5)) (tCons (tC (.int 5)) (tCons (tTup tNil) (tCons (tCB (rTupX K) (tCons (tVar 9) tNil)) tNil))))) (tCons (tC (.int 5)) tNil))))) := by
  obtain ⟨g, oc, od, dV, kV, doc, pm, ct, an, cdv, osl, hm, hk, lk, hcg, hb⟩ := G.ex
  refine pe_lamcall (a := "_law_work") (k := k) (by rfl) hm hk lk hcg hb sc_L_word rfl (.inl rfl) (word_givesX T hall (fun s' => ?_)) TB rfl (.head _) (lawT_1 hne) hr (lamS_by (show lamSB (defScope s_law) lamScope6 = true by decide +kernel)) (by rfl) (fun q cl pm cv ctv => by rfl) (fun A' outer' s' H' E' f' c' hr' => ?_)
  · exact (hr.mono (by omega : 1 ≤ k + 2)).deeper _
  · have tk : Takes (lamCx (cxOf CX0 P w K mg base n_law "law" (defScope s_law) f (.ref c) A outer s H E).nox A' outer' s' H' E' lamScope6 f' c') (fun cls d _ H => E' cls d H) := takes_of rfl rfl rfl rfl
    exact (pe_dcallX V hr' (passes_call tk (fun _ _ _ _ h => h)) (pa_cons (pe_tup (pa_cons pe_int (pa_cons pe_int (pa_cons (pe_tup pa_nil) (pa_cons (pe_callTy call_tuple_of (by rfl) T.b_tuple (by decide +kernel) (pa_cons (pv 9) pa_nil)) pa_nil))))) (pa_cons pe_int pa_nil)))
theorem pe_lam7 (T : Txt K mg w aWAYS aWAYS_TURNED aWAYS_MIRRORED) (hall : mg "HallError" = some (.ref CH)) (V : DefS P w K mg base (L2.CX P w) k "may" p_may sx_may) (G : WordD K mg)
    (hne : PT ≠ PW) (TB : TabB base mg c PT) (hr : Room (k + 2) (A.deeper (envOfC "law" (defScope s_law) s.heap.objs.size f (.ref c)))) (p lp pos : Pos) :
    PE (cxOf CX0 P w K mg base n_law "law" (defScope s_law) f (.ref c) A outer s H E).nox (.Call (.Name "_law_word" p) [.Lambda lamArgs lam7B lamScope7 lp] [] pos)
      (tLam (lawT PT PW) (TTX K mg CH cA) (fun E => (tCall sx_may [] E (tCons (tTup (tCons (tC (.int 5)) (tCons (tC (.int 5)) (tCons (tTup tNil) (tCons (tCB (rTupX K) (tCons (tSl (rSlX K) (tVar 9) tNoPart (tPart (tC (.int 6)))) tNil)) tNil))))) (tCons (tTup (tCons (tTup (tCons (tC (.int 0)) (tCons (tC (.int 0)) tNil))) tNil)) tNil))))) := by
  obtain ⟨g, oc, od, dV, kV, doc, pm, ct, an, cdv, osl, hm, hk, lk, hcg, hb⟩ := G.ex
  refine pe_lamcall (a := "_law_work") (k := k) (by rfl) hm hk lk hcg hb sc_L_word rfl (.inl rfl) (word_givesX T hall (fun s' => ?_)) TB rfl (.head _) (lawT_1 hne) hr (lamS_by (show lamSB (defScope s_law) lamScope7 = true by decide +kernel)) (by rfl) (fun q cl pm cv ctv => by rfl) (fun A' outer' s' H' E' f' c' hr' => ?_)
  · exact (hr.mono (by omega : 1 ≤ k + 2)).deeper _
  · have tk : Takes (lamCx (cxOf CX0 P w K mg base n_law "law" (defScope s_law) f (.ref c) A outer s H E).nox A' outer' s' H' E' lamScope7 f' c') (fun cls d _ H => E' cls d H) := takes_of rfl rfl rfl rfl
    exact (pe_dcallX V hr' (passes_call tk (fun _ _ _ _ h => h)) (pa_cons (pe_tup (pa_cons pe_int (pa_cons pe_int (pa_cons (pe_tup pa_nil) (pa_cons (pe_callTy call_tuple_of (by rfl) T.b_tuple (by decide +kernel) (pa_cons (pe_slice sl_X (pv 9) po_none (po_some pe_int)) pa_nil)) pa_nil))))) (pa_cons (pe_tup (pa_cons (pe_tup (pa_cons pe_int (pa_cons pe_int pa_nil))) pa_nil)) pa_nil)))
/-- the word of a lambda of a list -/
theorem pe_lamK {sc : Scope} {C : Addr} {cl : List (Str × Addr)} {fp : List Addr} {s1 : Shared} {H1 : Hp} {kk i : Nat} {q : Str} (T : Txt K mg w aWAYS aWAYS_TURNED aWAYS_MIRRORED) (hall : mg "HallError" = some (.ref CH)) (G : WordD K mg)
    (hr : Room (kk + 1) (A.deeper (envOfC "law" (defScope s_law) s.heap.objs.size f (.ref c)))) (hkk : 1 ≤ kk) (p lp pos : Pos) (hy : PE ((cxOf CX0 P w K mg base n_law "law" (defScope s_law) f (.ref c) A outer s H E).nox.blk s1 H1 sc (compEnvC sc cl C (cxOf CX0 P w K mg base n_law "law" (defScope s_law) f (.ref c) A outer s H E).nox.env) fp) (.Name "_law_work" lp) (tVar i))
    (hg : Gl ((cxOf CX0 P w K mg base n_law "law" (defScope s_law) f (.ref c) A outer s H E).nox.blk s1 H1 sc (compEnvC sc cl C (cxOf CX0 P w K mg base n_law "law" (defScope s_law) f (.ref c) A outer s H E).nox.env) fp) "_law_word") :
    PE ((cxOf CX0 P w K mg base n_law "law" (defScope s_law) f (.ref c) A outer s H E).nox.blk s1 H1 sc (compEnvC sc cl C (cxOf CX0 P w K mg base n_law "law" (defScope s_law) f (.ref c) A outer s H E).nox.env) fp) (.Call (.Name "_law_word" p) [.Name "_law_work" lp] [] pos)
      (Lmp.tLamE (cxOf CX0 P w K mg base n_law "law" (defScope s_law) f (.ref c) A outer s H E).nox kk q i (TTX K mg CH cA)) := by
  obtain ⟨g, oc, od, dV, kV, doc, pm, ct, an, cdv, osl, hm, hk, lk, hcg, hb⟩ := G.ex
  exact Lmp.pe_lamE (X := (cxOf CX0 P w K mg base n_law "law" (defScope s_law) f (.ref c) A outer s H E).nox.blk s1 H1 sc (compEnvC sc cl C (cxOf CX0 P w K mg base n_law "law" (defScope s_law) f (.ref c) A outer s H E).nox.env) fp) (a := "_law_work") (kk := kk) hg hm hk lk hcg hb sc_L_word rfl (.inl rfl) (word_givesX T hall (fun s' => (hr.mono (by omega : 1 ≤ kk + 1)).deeper _)) hy hr
end
end Pd
/-! SemKC -/
set_option Elab.async false
set_option linter.all false
set_option maxRecDepth 100000
set_option maxHeartbeats 4000000
namespace Pd
variable [Pd.Wd]
open PySem PySem.Spec PyProof.Rows L2 PySem.W
local macro_rules | `(tactic| walk_at "ed") => `(tactic| repeat' (first
  | with_reducible (first
    | exact ed_int | exact ed_str | exact ed_bl | exact ed_non
    | exact ea_nil | refine' ea_cons ?_ ?_
    | refine' ed_isi ?_ ?_ | refine' ed_isi2 ?_ ?_ ?_
    | refine' ed_andV ?_ (fun _ => ?_) | refine' ed_orV ?_ (fun _ => ?_) | refine' ed_notV ?_
    | refine' ed_chain ?_ ?_ ?_ (fun _ => ⟨?_, ?_⟩)
    | refine' ed_tup ?_ ?_ | refine' ed_lst ?_ ?_
    | refine' et_not ?_ | refine' et_and ?_ (fun _ => ?_) | refine' et_or ?_ (fun _ => ?_) | exact et_yes
    | refine' et_test ?_ | refine' et_B ?_
    | refine' ed_op ?_ ?_ ?_
    | refine' ed_cb ?_ ?_)
  | exact ed_var rfl
  | exact kit_tt | exact kit_ii | exact kit_ib | exact kit_ll | exact kit_lt | exact kit_tl
  | exact r2_addI | exact r2_subI | exact r2_lt | exact r2_le | exact r2_gt | exact r2_ge | exact r2_isN | exact r2_notN
  | exact rc_lenT | exact rc_lenL | exact rc_intB | exact rc_tupL
  | with_reducible (first | refine' r2_eq ?_ ?_ | refine' r2_ne ?_ ?_)
  | exact sh_int _ | exact sh_sg _ | exact sh_cell _ | exact sh_edge _ | exact sh_pair _ | exact sh_str _ (by decide +kernel)
  | exact r2_ixT rfl | exact r2_ixL rfl
  | refine' ed_tup ?_ ?_
  | (show List.length _ ≤ 100000; simp; done)))
def noTbl (B : Hp) : Hp := fun a => match B a with
  | some (.tbl _) => none
  | o => o
theorem noTbl_ex (B : Hp) : Ex (noTbl B) B := fun a o h => by
  unfold noTbl at h
  split at h
  · cases h
  · exact h
theorem noTbl_of {B : Hp} {a : Addr} {o : HO} (h : B a = some o) (hn : ∀ ps, o ≠ .tbl ps) : noTbl B a = some o := by
  unfold noTbl
  rw [h]
  split
  · rename_i ps e
    exact absurd (Option.some.inj e) (hn ps)
  · rfl
theorem noTbl_none {B : Hp} {z : Addr} (h : B z = none) : noTbl B z = none := by
  cases q : noTbl B z with
  | none => rfl
  | some u =>
    have := noTbl_ex B z u q
    rw [h] at this
    cases this
theorem noTbl_extN {B H H1 : Hp} (e : Ex B H) (x : LamX.ExtN H H1) : Ex (noTbl B) H1 := fun a o h => by
  have h1 := noTbl_ex B a o h
  refine x a o (e a o h1) (fun ps z => ?_)
  subst z
  unfold noTbl at h
  rw [h1] at h
  cases h
mutual
theorem DH.noTbl {B : Hp} : ∀ {v : V} {d : PyData}, DH B v d → DH (Pd.noTbl B) v d
  | _, _, .non => .non
  | _, _, .bl b => .bl b
  | _, _, .int i => .int i
  | _, _, .str x => .str x
  | _, _, .lst h r => .lst (noTbl_of h (fun _ z => nomatch z)) (DHs.noTbl r)
  | _, _, .tup h r => .tup (noTbl_of h (fun _ z => nomatch z)) (DHs.noTbl r)
  | _, _, .dct h r => .dct (noTbl_of h (fun _ z => by unfold DNo at z; cases z)) (DHk.noTbl r)
theorem DHs.noTbl {B : Hp} : ∀ {vs : List V} {ds : List PyData}, DHs B vs ds → DHs (Pd.noTbl B) vs ds
  | _, _, .nil => .nil
  | _, _, .cons h r => .cons (DH.noTbl h) (DHs.noTbl r)
theorem DHk.noTbl {B : Hp} : ∀ {es : List NE} {kvs : List (PyData × PyData)}, DHk B es kvs → DHk (Pd.noTbl B) es kvs
  | _, _, .nil => .nil
  | _, _, .cons a b h k r => .cons a b (DH.noTbl h) (DH.noTbl k) (DHk.noTbl r)
end
theorem tabs_wR {T : List (Addr × Str)} {l sc : Addr} {x y z : Int} {B H B' H' : Hp} (t : LamX.Tabs T H) (hrow : H l = some (rowL sc x y z)) (g : GrW l B H B' H') : LamX.Tabs T H' := fun p hp => by
  obtain ⟨ps, h1, h2, h3⟩ := t p hp
  have ne : ∀ {u : Addr} {o : HO}, H u = some o → o ≠ rowL sc x y z → u ≠ l := fun {u o} hx hn e => by
    subst e
    rw [hrow] at hx
    exact hn (Option.some.inj hx).symm
  refine ⟨ps, g.h _ _ (ne h1 (fun z => nomatch z)) h1, h2, fun pos cv hc => ?_⟩
  obtain ⟨u, e1, e2⟩ := h3 pos cv hc
  exact ⟨u, e1, g.h _ _ (ne e2 (fun z => by unfold LamX.CodeO rowL at z; cases z)) e2⟩
structure CKr (r : Nat) (l sc : Addr) (ns : List Int) (c : Cfg) (K : PySem.W.Frag) : Prop where
  r : c.r = r
  K : c.K = K
  l : c.l = l
  sc : c.sc = sc
  ns : c.ns = ns
theorem CKr.dr {r : Nat} {l sc : Addr} {ns : List Int} {c : Cfg} {K : PySem.W.Frag} {B H : Hp} (h : CKr r l sc ns c K) (d : Dr c.K c.l c.sc c.ns B H) : Dr K l sc ns B H := by
  obtain ⟨r, K, l, sc, ns, B1, H1⟩ := c
  obtain ⟨h1, h2, h3, h4, h5⟩ := h
  subst h2 h3 h4 h5
  exact d
def CK1 (c : Cfg) (K : PySem.W.Frag) : Prop := c.r = 1 ∧ c.K = K
section
variable {K : PySem.W.Frag} {c : Cfg} {A : Nat → Addr} {σ : L2.St} {B H : Hp} {ρ ρ' : Rho} {os os' : OS} {te tb : TE} {ta : TA} {d : PyData}
theorem ei_callW1 {Pre : List PyData → Prop} {R : List PyData → PyData → Prop} {P' : List PyData → Prop} (hr : CK1 c K) (h : AI c ta ρ os P') (hp : ∀ ds, P' ds → Pre ds) : EI c (tCallD (spW K Pre R) (tCons (tVar 1) ta)) ρ os (fun d => ∃ ds, P' ds ∧ R ds d) := by
  obtain ⟨h0, rfl⟩ := hr
  have := ei_callW (R := R) h hp
  rw [h0] at this
  exact this
end
/-- what the law's word wants of an exception class -/
structure XcOk (K : PySem.W.Frag) (mg : Str → Option Value) (C CH : Addr) (cA : Str → Addr) (i : Nat) : Prop where
  w : WordS K mg C CH cA
  k : KindX K C CH cA i
structure Wt (T : List (Addr × Str)) (c : Cfg) (σ : L2.St) (B H : Hp) (ρ : Rho) : Prop where
  iv : Iv c (fun _ => 0) σ B H ρ []
  tb : LamX.Tabs T c.H1
  rl : ∃ x y z, c.H1 c.l = some (rowL c.sc x y z)
section
variable {T : List (Addr × Str)} {K : PySem.W.Frag} {r : Nat} {l sc : Addr} {ns : List Int} {c : Cfg} {σ σ' : L2.St} {B H B' H' : Hp} {ρ ρ' ρ1 : Rho} {te tb : TE} {tt : TT} {ta : TA} {d : PyData} {ds : List PyData} {Q : VK} {D : Ends} {i j : Nat} {vs : List Nat} {os : OS}
theorem Iv.no {A : Nat → Addr} (o : Iv c A σ B H ρ []) : Iv c (fun _ => 0) σ B H ρ [] := ⟨o.d, o.g, o.e, o.s0, (fun p hp => nomatch hp), (fun p hp => nomatch hp)⟩
theorem Wt.gr (o : Wt T c σ B H ρ) (g : Gr B H B' H') : Wt T c σ B' H' ρ := ⟨o.iv.gr g, o.tb, o.rl⟩
theorem Wt.less (o : Wt T c σ B H ρ) (k : Rle ρ' ρ) : Wt T c σ B H ρ' := ⟨o.iv.less k, o.tb, o.rl⟩
theorem Wt.set {v : V} (o : Wt T c σ B H ρ) (dv : DH B v d) (hr : i ≠ c.r) : Wt T c (σ.set i (some v)) B H (ρ.set i (some d)) := ⟨o.iv.set dv hr (fun p hp => nomatch hp), o.tb, o.rl⟩
theorem Wt.tabs (o : Wt T c σ B H ρ) : LamX.Tabs T H := by
  obtain ⟨x, y, z, h⟩ := o.rl
  exact tabs_wR o.tb h o.iv.g
theorem Wt.anew (hr : CKr r l sc ns c K) (o : Wt T c σ B H ρ) (d' : Dr c.K c.l c.sc c.ns B' H') (e : EnvD σ B' ρ') (tb : LamX.Tabs T H') : ∃ c', CKr r l sc ns c' K ∧ Wt T c' σ B' H' ρ' := by
  obtain ⟨x, y, z, h1, h2⟩ := d'.row
  exact ⟨⟨c.K, c.r, c.l, c.sc, c.ns, B', H'⟩, ⟨hr.r, hr.K, hr.l, hr.sc, hr.ns⟩, ⟨d', ⟨Ex.refl B', fun z u _ e => e, fun z e _ => e⟩, e, o.iv.s0, (fun p hp => nomatch hp), (fun p hp => nomatch hp)⟩, tb, x, y, z, h1⟩
theorem Wt.lam {H1 : Hp} (hr : CKr r l sc ns c K) (o : Wt T c σ B H ρ) (x : LamX.ExtN H H1) (tb : LamX.Tabs T H1) : ∃ c', CKr r l sc ns c' K ∧ Wt T c' σ (noTbl B) H1 ρ := by
  have ev1 : EnvD σ (noTbl B) ρ := ⟨o.iv.e.len, fun i z q => let ⟨v, a, b⟩ := o.iv.e.get i z q; ⟨v, a, b.noTbl⟩⟩
  refine o.anew hr ?_ ev1 tb
  obtain ⟨x1, y1, z1, h1, h2⟩ := o.iv.d.row
  refine ⟨noTbl_extN o.iv.d.t x, ⟨x1, y1, z1, x _ _ h1 (fun _ z => nomatch z), h2⟩, ?_, noTbl_none o.iv.d.nl⟩
  rcases o.iv.d.scr with (e | ⟨u, e⟩) | e
  · exact .inl (.inl (noTbl_of e (fun _ z => nomatch z)))
  · exact .inl (.inr ⟨u, noTbl_of e (fun _ z => nomatch z)⟩)
  · exact .inr e
end
/-! ### where the law stands -/
structure LX where
  K : PySem.W.Frag
  PT : Addr
  PW : Addr
  l : Addr
  sc : Addr
  ns : List Int
def NoT (B : Hp) : Prop := ∀ a ps, B a ≠ some (.tbl ps)
theorem noT_noTbl (B : Hp) : NoT (noTbl B) := fun a ps h => by
  unfold noTbl at h
  split at h
  · cases h
  · rename_i q
    exact q ps h
theorem NoT.ex {b0 B : Hp} (n : NoT b0) (e : Ex b0 B) : Ex b0 (noTbl B) := fun a o h => noTbl_of (e a o h) fun ps z => by subst z; exact n a ps h
structure LT (X : LX) (b0 : Hp) (σ : L2.St) (B H : Hp) (ρ : Rho) : Prop where
  n : NoT b0
  b : Ex b0 B
  w : ∃ c, CKr 1 X.l X.sc X.ns c X.K ∧ Wt (lawT X.PT X.PW) c σ B H ρ
section
variable {X : LX} {b0 : Hp} {σ σ' : L2.St} {B H B' H' : Hp} {ρ ρ' : Rho} {te tb : TE} {tt : TT} {ta : TA} {d e z : PyData} {ds : List PyData} {Q : VK} {D : Ends} {i j : Nat} {vs : List Nat} {mg : Str → Option Value} {CHx : Addr} {cA : Str → Addr}
theorem LT.gr (o : LT X b0 σ B H ρ) (g : Gr B H B' H') : LT X b0 σ B' H' ρ := ⟨o.n, o.b.trans g.b, let ⟨c, h, w⟩ := o.w; ⟨c, h, w.gr g⟩⟩
theorem LT.less (o : LT X b0 σ B H ρ) (k : Rle ρ' ρ) : LT X b0 σ B H ρ' := ⟨o.n, o.b, let ⟨c, h, w⟩ := o.w; ⟨c, h, w.less k⟩⟩
theorem LT.t (o : LT X b0 σ B H ρ) : Ex B H := let ⟨_, _, w⟩ := o.w; w.iv.d.t
theorem LT.ev (o : LT X b0 σ B H ρ) : EnvD σ B ρ := let ⟨_, _, w⟩ := o.w; w.iv.e
theorem LT.set {v : V} (o : LT X b0 σ B H ρ) (dv : DH B v d) (h : i ≠ 1) : LT X b0 (σ.set i (some v)) B H (ρ.set i (some d)) := ⟨o.n, o.b, let ⟨c, hr, w⟩ := o.w; ⟨c, hr, w.set dv (by rw [hr.r]; exact h)⟩⟩
theorem LT.base (o : LT X b0 σ B H ρ) : LT X (noTbl B) σ B H ρ := ⟨noT_noTbl B, noTbl_ex B, o.w⟩
theorem LT.rebase {b1 : Hp} (o : LT X b0 σ B H ρ) (n : NoT b1) (e : Ex b1 b0) : LT X b1 σ B H ρ := ⟨n, e.trans o.b, o.w⟩
theorem lt_set (o : LT X b0 σ B H ρ) (h : ED te ρ d) (hi : i ≠ 1) (k : ∀ σ' B' H', LT X b0 σ' B' H' (ρ.set i (some d)) → D.nx σ' H') : tAsg te (gName i) D σ H :=
  h σ B H o.t o.ev _ fun v B1 H1 g dv => k _ B1 H1 ((o.gr g).set dv hi)
/-- what the word tells of an outcome -/
def WordOf (K : PySem.W.Frag) (mg : Str → Option Value) (CHx : Addr) (cA : Str → Addr) : Out → PyData → Prop
  | .ok _, z => z = .none
  | .ex e, z => ∃ i, XcOk K mg e.1 CHx cA i ∧ ToldW i e.2 z
theorem iList_of {v : V} {R : It → Hp → Prop} (t : Ex B H) (dv : DH B v (.list ds)) (q : ∀ J, ItD J B ds → R J H) : iList X.K (tC v) σ H R := by
  cases dv with
  | @lst a xs _ ha hs =>
    refine ⟨a, rfl, ⟨xs, SqL.of (t _ _ ha)⟩, q _ fun B2 H2 e1 e2 i => ⟨fun hi => ⟨xs, SqL.of (e2 _ _ (e1 _ _ ha)), by rw [hs.length]; omega⟩, fun d hd => ?_⟩⟩
    obtain ⟨x, hx, dx⟩ := hs.get hd
    refine ⟨⟨xs, x, SqL.of (e2 _ _ (e1 _ _ ha)), hx⟩, fun y H' ⟨eh, hy⟩ => ⟨B2, ?_, ?_⟩⟩
    · subst eh
      exact Gr.refl e2
    · have := hy xs (SqL.of (e2 _ _ (e1 _ _ ha)))
      rw [hx] at this
      cases this
      exact dx.mono e1
theorem lt_for {α : Type} {g : TG} {tb : TS} {items : List α} (enc : α → PyData) {v : V} (x : LT X b0 σ B H ρ) (dv : DH B v (.list (items.map enc)))
    (turn : ∀ y ∈ items, ∀ b0 σ B H (N : L2.St → Hp → Prop) v', LT X b0 σ B H ρ → DH B v' (enc y) → (∀ σ' B' H', LT X b0 σ' B' H' ρ → N σ' H') → g v' σ H fun σ2 H2 => tb { D with nx := N, ct := N, bk := D.nx } σ2 H2)
    (k : ∀ σ' B' H', LT X b0 σ' B' H' ρ → D.nx σ' H') : tFor (iList X.K (tC v)) g tb D σ H := by
  have x0 := x.base
  refine iList_of (B := noTbl B) (x0.b.trans x0.t) dv.noTbl fun J hJ => ?_
  refine ⟨fun n m σ' H' => m = items.length - n ∧ n ≤ items.length ∧ ∃ B', LT X (noTbl B) σ' B' H' ρ, ⟨items.length, by omega, Nat.zero_le _, B, x0⟩, ?_⟩
  rintro n m σ' H' ⟨rfl, hle, B', o'⟩
  obtain ⟨hstop, hgo⟩ := hJ B' H' o'.b o'.t n
  by_cases hlt : n < items.length
  · right
    have hd : items[n]? = some items[n] := List.getElem?_eq_getElem hlt
    obtain ⟨go, hy⟩ := hgo (enc items[n]) (by rw [List.getElem?_map, hd]; rfl)
    refine ⟨go, fun σ2 H2 => n + 1 ≤ items.length ∧ ∃ B', LT X (noTbl B) σ2 B' H2 ρ, fun σ2 H2 ⟨p1, p2⟩ => ⟨items.length - (n + 1), by omega, rfl, p1, p2⟩, fun y H3 hyl => ?_⟩
    obtain ⟨B3, g3, dx⟩ := hy y H3 hyl
    exact turn items[n] (List.getElem_mem _) _ σ' B3 H3 _ y (o'.gr g3) dx fun σ4 B4 H4 o4 => ⟨hlt, B4, o4⟩
  · left
    have hie : n = items.length := by omega
    subst hie
    exact ⟨hstop (by rw [List.length_map]), k σ' B' H' (o'.rebase x.n (x.n.ex x.b))⟩
end

/-! ### the word of a lambda of a list -/
theorem LT.slot {X : LX} {b0 : Hp} {σ : L2.St} {B H : Hp} {ρ : Rho} {i : Nat} (o : LT X b0 σ B H ρ) (x : Option V) (hi : i ≠ 1) (hρ : ρ[i]? = some none) : LT X b0 ((L2.wipe σ [i]).set i x) B H ρ := by
  obtain ⟨c, hr, w⟩ := o.w
  have hc : i ≠ c.r := by rw [hr.r]; exact hi
  refine ⟨o.n, o.b, c, hr, ⟨w.iv.d, w.iv.g, ?_, ?_, (fun p hp => nomatch hp), (fun p hp => nomatch hp)⟩, w.tb, w.rl⟩
  · have e := (w.iv.e.wipe [i]).forget i x
    have e2 : (wipeR ρ [i]).set i none = ρ := by
      show (ρ.set i none).set i none = ρ
      rw [List.set_set]
      refine List.ext_getElem? fun j => ?_
      rw [List.getElem?_set]
      by_cases hj : i = j
      · subst hj
        rw [if_pos rfl, if_pos (List.getElem?_eq_some_iff.mp hρ).1, hρ]
      · rw [if_neg hj]
    rw [e2] at e
    exact e
  · show ((σ.set i none).set i x)[c.r]? = _
    rw [List.getElem?_set_ne hc, List.getElem?_set_ne hc]
    exact w.iv.s0
section
variable {X : LX} {b0 : Hp} {σ : L2.St} {B H : Hp} {ρ : Rho} {Q : VK} {mg : Str → Option Value} {CHx : Addr} {cA : Str → Addr} {z : PyData}
theorem extN_gr {B H B' H' : Hp} (g : Gr B H B' H') : LamX.ExtN H H' := fun a o e _ => g.h a o e
/-- what is told of a lambda of a frame that has ended, which comes to ou over a base that knows none of its cells -/
theorem lt_wordE {Y : Cx} {kk i : Nat} {q : Str} {f : Addr} {F : Lmp.LF} {d : Option Int} {fr : List Str} {ws : List (Option V)} {N : List Str} {as : List V} {t : XK → TE} {ρ2 : Rho} {ou : Out} (x : LT X b0 σ B H ρ) (hi : σ[i]? = some (some (.ref f)))
    (R : Lmp.LRun Y.prog Y.w Y.K Y.mg Y.base kk F d fr (fun ws E H Q => t E (NdefX.startF N as ws) H Q)) (hq : F.qual = q) (hl : Lmp.LamIs f F d H) (hc : H F.c = some (LamX.CodeO F.c F.qual)) (C : Lmp.CellsT F.cl fr ws H) (hB : ∀ c ∈ F.cs, B c = none)
    (ev : EnvD (NdefX.startF N as ws) B ρ2) (ht : ∀ E, OE (t E) E ρ2 ou) (hz : WordOf X.K mg CHx cA ou z) (k : ∀ v B' H', LT X b0 σ B' H' ρ → Gr B H B' H' → DH B' v z → Q v H') :
    Lmp.tLamE Y kk q i (TTX X.K mg CHx cA) σ H Q := by
  refine ⟨f, F, d, fr, ws, _, hi, R, hq, hl, hc, C, ?_⟩
  refine Lmp.actE_out (B := B) (ρ := ρ2) (t := fun _ E => t E) (st := fun ws => NdefX.startF N as ws) hl C x.t hB ev ht ?_
  cases ou with
  | ok d =>
    have hz : z = .none := hz
    subst hz
    exact fun v B' H' g' _ => k .non B' H' (x.gr g') g' .non
  | ex e =>
    obtain ⟨j, hx, ht⟩ := hz
    intro B' H' dx g' hdx
    have g3 := Gr.own (o := .xd e.2) g'.t hdx
    exact ⟨e.1, j, dx, e.2, z, B', rfl, hx.w, hx.k, rfl, upd_same, ht, g3.t, fun v B'' H'' g4 dv => k v B'' H'' (x.gr ((g'.trans g3).trans g4)) ((g'.trans g3).trans g4) dv⟩
end
end Pd
/-! SemKD -/
set_option Elab.async false
set_option linter.all false
set_option maxRecDepth 100000
set_option maxHeartbeats 4000000
namespace Pd
variable [Pd.Wd]
open PySem PySem.Spec PyProof.Rows L2 PySem.W
local macro_rules | `(tactic| walk_at "ed") => `(tactic| repeat' (first
  | with_reducible (first
    | exact ed_int | exact ed_str | exact ed_bl | exact ed_non
    | exact ea_nil | refine' ea_cons ?_ ?_
    | refine' ed_isi ?_ ?_ | refine' ed_isi2 ?_ ?_ ?_
    | refine' ed_andV ?_ (fun _ => ?_) | refine' ed_orV ?_ (fun _ => ?_) | refine' ed_notV ?_
    | refine' ed_chain ?_ ?_ ?_ (fun _ => ⟨?_, ?_⟩)
    | refine' ed_tup ?_ ?_ | refine' ed_lst ?_ ?_
    | refine' et_not ?_ | refine' et_and ?_ (fun _ => ?_) | refine' et_or ?_ (fun _ => ?_) | exact et_yes
    | refine' et_test ?_ | refine' et_B ?_
    | refine' ed_op ?_ ?_ ?_
    | refine' ed_cb ?_ ?_)
  | exact ed_var rfl
  | exact kit_tt | exact kit_ii | exact kit_ib | exact kit_ll | exact kit_lt | exact kit_tl
  | exact r2_addI | exact r2_subI | exact r2_lt | exact r2_le | exact r2_gt | exact r2_ge | exact r2_isN | exact r2_notN
  | exact rc_lenT | exact rc_lenL | exact rc_intB | exact rc_tupL
  | with_reducible (first | refine' r2_eq ?_ ?_ | refine' r2_ne ?_ ?_)
  | exact sh_int _ | exact sh_sg _ | exact sh_cell _ | exact sh_edge _ | exact sh_pair _ | exact sh_str _ (by decide +kernel)
  | exact r2_ixT rfl | exact r2_ixL rfl
  | refine' ed_tup ?_ ?_
  | (show List.length _ ≤ 100000; simp; done)))
/-! ### `_law_works` -/
section
variable {T : List (Addr × Str)} {H : Hp} {vs : List V} {Ws : List Lmp.LW} {W : Lmp.LW} {σ : L2.St}
theorem app_run2 {K : PySem.W.Frag} {i : Nat} {l : Addr} {Q : VK} (hT : LamX.Tabs T H) (hi : σ[i]? = some (some (.ref l))) (hl : H l = some (.lst vs)) (hL : Lmp.Lams H Ws vs) (hc : ∀ c', (W.1 c').c = c') (hz : Ws.length < sizeLine)
    (k : ∀ vs' H1, (∀ b o, b ≠ l → H b = some o → (∀ ps, o ≠ .tbl ps) → H1 b = some o) → (∀ b, H1 b = none → H b = none) → LamX.Tabs T H1 → H1 l = some (.lst vs') → Lmp.Lams H1 (Ws ++ [W]) vs' → Q .non H1) : tBM K "list" rAppend (tVar i) (tCons (Lmp.tLW T W) tNil) σ H Q := by
  refine ⟨_, hi, .inl ⟨rfl, vs, SqL.of hl⟩, Lmp.lw_run hT hc fun f c' H1 e1 e2 e3 l1 l2 => ?_⟩
  have hl1 : H1 l = some (.lst vs) := e1 _ _ hl fun _ z => nomatch z
  refine ⟨l, vs, .ref f, rfl, rfl, hl1, by rw [hL.length]; exact hz, k _ _ (fun b o hb e n => (upd_ne hb).trans (e1 b o e n)) (fun b h => e2 b (NdefX.upd_none h)) (Lmp.Tabs.put e3 hl1) upd_same ?_⟩
  exact ((hL.ext e1).app (.cons l1 l2 .nil)).put hl1
end
def spWk (K : PySem.W.Frag) (T : List (Addr × Str)) : Sp := fun vs H Q _ => ∃ v, vs = [v] ∧ LamX.Tabs T H ∧ ∀ p z vs' H', LamX.ExtN H H' → (∀ b, H' b = none → H b = none) → LamX.Tabs T H' → H p = none → H z = none → p ≠ z → H' p = some (.lst vs') → Lmp.Lams H' (wks z) vs' →
  Lmp.CellsT [("_law_hall_here", z)] ["_law_hall_here"] [some v] H' → Q (.ref p) H'
theorem wks_c (z : Addr) : ∀ W ∈ wks z, ∀ c', (W.1 c').c = c' := fun W hW => by
  unfold wks at hW
  simp only [List.mem_cons, List.not_mem_nil, or_false] at hW
  rcases hW with rfl | rfl | rfl | rfl | rfl | rfl | rfl | rfl | rfl | rfl | rfl | rfl | rfl | rfl | rfl | rfl <;> exact fun _ => rfl
theorem wks_q (z : Addr) : ∀ W ∈ wks z, ∀ c', (W.1 c').qual = nmL "_law_works" ∧ (W.1 c').cl = [(("_law_hall_here" : Str), z)] := fun W hW => by
  unfold wks at hW
  simp only [List.mem_cons, List.not_mem_nil, or_false] at hW
  rcases hW with rfl | rfl | rfl | rfl | rfl | rfl | rfl | rfl | rfl | rfl | rfl | rfl | rfl | rfl | rfl | rfl <;> exact fun _ => ⟨rfl, rfl⟩
theorem works_run {K : PySem.W.Frag} {T : List (Addr × Str)} {z : Addr} {v : V} {H : Hp} {R : L2.St → VK} (hT : LamX.Tabs T H)
    (k : ∀ p vs' σ H', LamX.ExtN H H' → (∀ b, H' b = none → H b = none) → LamX.Tabs T H' → H p = none → H' p = some (.lst vs') → Lmp.Lams H' (wks z) vs' → σ[0]? = some (some v) → R σ (.ref p) H') : rd_L_works K T z R (L2.start n_L_works [v]) H := by
  have wc := wks_c z
  have h0 : (L2.start n_L_works [v])[0]? = some (some v) := rfl
  have hlen : (L2.start n_L_works [v]).length = 2 := rfl
  generalize L2.start n_L_works [v] = σ at h0 hlen ⊢
  have s1 : ∀ (σ : L2.St) (x : Option V), σ.length = 2 → (σ.set 1 x)[1]? = some x ∧ (σ.set 1 x)[0]? = σ[0]? ∧ (σ.set 1 x).length = 2 := fun σ x h => ⟨List.getElem?_set_self (by omega), List.getElem?_set_ne (by decide), by rw [List.length_set]; exact h⟩
  have m : ∀ (Ws : List Lmp.LW), (∀ W ∈ Ws, W ∈ wks z) → ∀ W ∈ Ws, ∀ c', (W.1 c').c = c' := fun Ws h W hW => wc W (h W hW)
  unfold rd_L_works
  refine Lmp.lst_run hT (m _ (by simp [wks])) (by show 3 ≤ sizeLine; decide) fun p1 vs1 H1 e1 n1 t1 f1 l1 L1 => ?_
  obtain ⟨a1, a2, a3⟩ := s1 σ (some (.ref p1)) hlen
  try dsimp only [gName, Lmp.noEnds, tAsg, tDrop]
  rw [h0] at a2
  generalize σ.set 1 (some (.ref p1)) = σ1 at a1 a2 a3 ⊢
  refine Lmp.cat_run t1 a1 l1 L1 (m _ (by simp [wks])) (by show 6 ≤ sizeLine; decide) fun p2 vs2 H2 e2 n2 t2 f2 l2 L2 => ?_
  obtain ⟨b1, b2, b3⟩ := s1 σ1 (some (.ref p2)) a3
  try dsimp only [gName, Lmp.noEnds, tAsg, tDrop]
  rw [a2] at b2
  generalize σ1.set 1 (some (.ref p2)) = σ2 at b1 b2 b3 ⊢
  refine Lmp.cat_run t2 b1 l2 L2 (m _ (by simp [wks])) (by show 9 ≤ sizeLine; decide) fun p3 vs3 H3 e3 n3 t3 f3 l3 L3 => ?_
  obtain ⟨c1, c2, c3⟩ := s1 σ2 (some (.ref p3)) b3
  try dsimp only [gName, Lmp.noEnds, tAsg, tDrop]
  rw [b2] at c2
  generalize σ2.set 1 (some (.ref p3)) = σ3 at c1 c2 c3 ⊢
  refine Lmp.cat_run t3 c1 l3 L3 (m _ (by simp [wks])) (by show 11 ≤ sizeLine; decide) fun p4 vs4 H4 e4 n4 t4 f4 l4 L4 => ?_
  obtain ⟨d1, d2, d3⟩ := s1 σ3 (some (.ref p4)) c3
  try dsimp only [gName, Lmp.noEnds, tAsg, tDrop]
  rw [c2] at d2
  generalize σ3.set 1 (some (.ref p4)) = σ4 at d1 d2 d3 ⊢
  have e14 := Lmp.extN_trans e1 (Lmp.extN_trans e2 (Lmp.extN_trans e3 e4))
  have n14 : ∀ b, H4 b = none → H b = none := fun b h => n1 b (n2 b (n3 b (n4 b h)))
  have f4' : H p4 = none := n1 _ (n2 _ (n3 _ f4))
  refine app_run2 t4 d1 l4 L4 (wc _ (by simp [wks])) (by show 11 < sizeLine; decide) fun vs5 H5 e5 n5 t5 l5 L5 => ?_
  have e15 : LamX.ExtN H H5 := fun b o e n => e5 b o (fun q => by rw [q, f4'] at e; cases e) (e14 b o e n) n
  try dsimp only [gName, Lmp.noEnds, tAsg, tDrop]
  refine Lmp.cat_run t5 d1 l5 L5 (m _ (by simp [wks])) (by show 15 ≤ sizeLine; decide) fun p6 vs6 H6 e6 n6 t6 f6 l6 L6 => ?_
  obtain ⟨g1, g2, g3⟩ := s1 σ4 (some (.ref p6)) d3
  try dsimp only [gName, Lmp.noEnds, tAsg, tDrop]
  rw [d2] at g2
  generalize σ4.set 1 (some (.ref p6)) = σ6 at g1 g2 g3 ⊢
  refine Lmp.cat_run t6 g1 l6 L6 (m _ (by simp [wks])) (by show 16 ≤ sizeLine; decide) fun p7 vs7 H7 e7 n7 t7 f7 l7 L7 => ?_
  exact k p7 vs7 σ6 H7 (Lmp.extN_trans e15 (Lmp.extN_trans e6 e7)) (fun b h => n14 b (n5 b (n6 b (n7 b h)))) t7 (n14 _ (n5 _ (n6 _ f7))) l7 L7 (by rw [g2])
structure AtC (K : PySem.W.Frag) (mg : Str → Option Value) (x : Str) (st : Stmt) (ps : List Str) (c : Addr) : Prop where
  ex : ∃ f oc od kV doc pm an ct osl, mg x = some (.ref f) ∧ PySem.W.keepIn K (.ref f) = true ∧ K.lookup f = some ⟨oc, od, .func (PySem.W.fnOf x x (defArgs st) (defBody st) (defScope st) .none kV doc pm an (.ref c) ct), osl⟩ ∧ PySem.W.codeIn K (.ref c) x = true ∧
    Binds K (PySem.W.fnOf x x (defArgs st) (defBody st) (defScope st) .none kV doc pm an (.ref c) ct) ps []
theorem G_L_works {P : Program} {w : World} {K : PySem.W.Frag} {mg : Str → Option Value} {base : Heap} {c PT PW : Addr} (hne : PT ≠ PW) (TB : LamX.TabB base mg c PW) (R : AtC K mg "_law_works" s_L_works p_L_works c) : DefS P w K mg base CX0 1 "_law_works" p_L_works (spWk K (lawT PT PW)) := by
  obtain ⟨f, oc, od, kV, doc, pm, an, ct, osl, h1, h2, lk, hcd, hb⟩ := R.ex
  refine ⟨f, _, h1, h2, hb, Lmp.fn_ofC lk hcd sc_L_works (fun vs H Q E ⟨v, e, _⟩ => by rw [e]; rfl) fun A outer s H vs Q E hr ⟨v, e, hT, q⟩ => ?_⟩
  subst e
  refine ⟨rd_L_works K (lawT PT PW) (s.heap.objs.size + 1), [("_law_hall_here", s.heap.objs.size + 1)], ["_law_hall_here"], [0], bd_L_works TB (.tail _ (.head _)) (lawT_2 hne), ⟨fun y c e => e, fun y hy => ?_, fun y hy c e => e, rfl⟩, fun p hp => ?_, fun b hb => ?_, ?_⟩
  · rw [List.mem_singleton.mp hy]
    exact .inl (by rfl)
  · rw [List.mem_singleton.mp hp]
    rfl
  · have : b = s.heap.objs.size + 1 := List.mem_singleton.mp hb
    omega
  · generalize s.heap.objs.size + 1 = z
    refine works_run hT fun p vs' σ H' e n t fp l L h0 H2 k1 k2 C => ?_
    have hz' : H' z = none := k2 z (by simp)
    have e2 : ∀ b o, H' b = some o → H2 b = some o := fun b o hb => by
      rw [k1 b fun hm => by rw [k2 b hm] at hb; cases hb]
      exact hb
    have hzn : ∀ b, H2 b = none → H' b = none := fun b hb => by
      by_cases hm : b ∈ ([("_law_hall_here", z)] : List (Str × Addr)).map (·.2)
      · exact k2 b hm
      · rw [← k1 b hm]
        exact hb
    have hs : ([0] : List Nat).map (NdefX.slotAt σ) = [some v] := by
      show [NdefX.slotAt σ 0] = _
      unfold NdefX.slotAt
      rw [h0]
    rw [hs] at C
    exact q p z vs' H2 (fun b o hb nn => e2 b o (e b o hb nn)) (fun b hb => n b (hzn b hb)) (t.ext e2) fp (n z hz') (fun q => by rw [q, hz'] at l; cases l) (e2 _ _ l) (L.ext fun b o hb _ => e2 b o hb) C
end Pd
/-! SemKE -/
set_option Elab.async false
set_option linter.all false
set_option maxRecDepth 100000
set_option maxHeartbeats 4000000
namespace Pd
variable [Pd.Wd]
open PySem PySem.Spec PyProof.Rows L2 PySem.W
local macro_rules | `(tactic| walk_at "ed") => `(tactic| repeat' (first
  | with_reducible (first
    | exact ed_int | exact ed_str | exact ed_bl | exact ed_non
    | exact ea_nil | refine' ea_cons ?_ ?_
    | refine' ed_isi ?_ ?_ | refine' ed_isi2 ?_ ?_ ?_
    | refine' ed_andV ?_ (fun _ => ?_) | refine' ed_orV ?_ (fun _ => ?_) | refine' ed_notV ?_
    | refine' ed_chain ?_ ?_ ?_ (fun _ => ⟨?_, ?_⟩)
    | refine' ed_tup ?_ ?_ | refine' ed_lst ?_ ?_
    | refine' et_not ?_ | refine' et_and ?_ (fun _ => ?_) | refine' et_or ?_ (fun _ => ?_) | exact et_yes
    | refine' et_test ?_ | refine' et_B ?_
    | refine' ed_op ?_ ?_ ?_
    | refine' ed_cb ?_ ?_)
  | exact ed_var rfl
  | exact kit_tt | exact kit_ii | exact kit_ib | exact kit_ll | exact kit_lt | exact kit_tl
  | exact r2_addI | exact r2_subI | exact r2_lt | exact r2_le | exact r2_gt | exact r2_ge | exact r2_isN | exact r2_notN
  | exact rc_lenT | exact rc_lenL | exact rc_intB | exact rc_tupL
  | with_reducible (first | refine' r2_eq ?_ ?_ | refine' r2_ne ?_ ?_)
  | exact sh_int _ | exact sh_sg _ | exact sh_cell _ | exact sh_edge _ | exact sh_pair _ | exact sh_str _ (by decide +kernel)
  | exact r2_ixT rfl | exact r2_ixL rfl
  | refine' ed_tup ?_ ?_
  | (show List.length _ ≤ 100000; simp; done)))
/-! ### the law's world, step by step -/
section
variable {X : LX} {b0 : Hp} {σ σ' : L2.St} {B H B' H' : Hp} {ρ ρ' : Rho} {te tb : TE} {tt : TT} {ta : TA} {d e z : PyData} {ds : List PyData} {Q : VK} {D : Ends} {i j : Nat} {vs : List Nat} {mg : Str → Option Value} {CHx : Addr} {cA : Str → Addr} {P : PyData → Prop}
theorem LT.l (x : LT X b0 σ B H ρ) : ∃ a b c, H X.l = some (rowL X.sc a b c) := by
  obtain ⟨c, hr, w⟩ := x.w
  obtain ⟨a, b, e, h, _⟩ := w.iv.d.row
  rw [hr.l, hr.sc] at h
  exact ⟨a, b, e, h⟩
theorem LT.tbs (x : LT X b0 σ B H ρ) : LamX.Tabs (lawT X.PT X.PW) H := let ⟨_, _, w⟩ := x.w; w.tabs
theorem LT.nl (x : LT X b0 σ B H ρ) : B X.l = none := by
  obtain ⟨c, hr, w⟩ := x.w
  have := w.iv.d.nl
  rw [hr.l] at this
  exact this
/-- more is known as data -/
theorem LT.grow (x : LT X b0 σ B H ρ) (e : Ex B B') (t : Ex B' H) (nl : B' X.l = none) : LT X b0 σ B' H ρ := by
  obtain ⟨c, hr, w⟩ := x.w
  have d := w.iv.d
  refine ⟨x.n, x.b.trans e, w.anew hr ⟨t, d.row, e.seqL d.scr, by rw [hr.l]; exact nl⟩ (w.iv.e.mono e) w.tabs⟩
/-- told anew -/
theorem LT.env (x : LT X b0 σ B H ρ) (ev : EnvD σ' B ρ') (h1 : σ'[1]? = σ[1]?) : LT X b0 σ' B H ρ' := by
  obtain ⟨c, hr, w⟩ := x.w
  refine ⟨x.n, x.b, c, hr, ⟨w.iv.d, w.iv.g, ev, ?_, (fun p hp => nomatch hp), (fun p hp => nomatch hp)⟩, w.tb, w.rl⟩
  have := w.iv.s0
  rw [hr.r] at this ⊢
  rw [h1]
  exact this
theorem wipe_eq1 {σ σ' : L2.St} {vs : List Nat} (w : L2.wipe σ' vs = L2.wipe σ vs) (h : 1 ∉ vs) : σ'[1]? = σ[1]? := by
  have e := congrArg (fun l : L2.St => l[1]?) w
  simp only [wipe_get] at e
  rw [if_neg (fun z => h z.1), if_neg (fun z => h z.1)] at e
  exact e
/-- a value taken apart into names -/
theorem lt_gd {g : TG} {v : V} {N : L2.St → Hp → Prop} (x : LT X b0 σ B H ρ) (dv : DH B v d) (hg : GD g ρ d ρ' vs) (h1 : 1 ∉ vs) (k : ∀ σ', LT X b0 σ' B H ρ' → N σ' H) : g v σ H N :=
  hg σ B H v x.t x.ev dv _ fun σ2 ev2 w2 => k σ2 (x.env ev2 (wipe_eq1 w2 h1))
/-- drawn -/
theorem lt_draw (x : LT X b0 σ B H ρ) (h : ∀ c, CK1 c X.K → EI c te ρ [] P) (hi : i ≠ 1) (k : ∀ d, P d → ∀ b1 σ' B' H', LT X b1 σ' B' H' (ρ.set i (some d)) → D.nx σ' H') : tAsg te (gName i) D σ H := by
  obtain ⟨c, hc0, w⟩ := x.w
  refine h c ⟨hc0.r, hc0.K⟩ _ σ B H w.iv _ fun v d B1 H1 o1 ex dv hd => ?_
  have x1 : LT X (noTbl B1) σ B1 H1 ρ := ⟨noT_noTbl B1, noTbl_ex B1, c, hc0, ⟨o1.no, w.tb, w.rl⟩⟩
  exact k d hd _ _ B1 H1 (x1.set dv hi)
theorem lt_drawG {g : TG} {ρ1 : PyData → Rho} (x : LT X b0 σ B H ρ) (h : ∀ c, CK1 c X.K → EI c te ρ [] P) (hg : ∀ d, P d → GD g ρ d (ρ1 d) vs) (h1 : 1 ∉ vs) (k : ∀ d, P d → ∀ b1 σ' B' H', LT X b1 σ' B' H' (ρ1 d) → D.nx σ' H') : tAsg te g D σ H := by
  obtain ⟨c, hc0, w⟩ := x.w
  refine h c ⟨hc0.r, hc0.K⟩ _ σ B H w.iv _ fun v d B1 H1 o1 ex dv hd => ?_
  have x1 : LT X (noTbl B1) σ B1 H1 ρ := ⟨noT_noTbl B1, noTbl_ex B1, c, hc0, ⟨o1.no, w.tb, w.rl⟩⟩
  exact lt_gd x1 dv (hg d hd) h1 fun σ' x2 => k d hd _ _ B1 H1 x2
/-- what a lambda made here tells, and what stays -/
theorem lt_word2 {R : List PyData → Out → Prop} {ou : Out} (x : LT X b0 σ B H ρ) (h : EA ta ρ ds) (hR : R ds ou) (hz : WordOf X.K mg CHx cA ou z)
    (k : ∀ v B' H', LT X b0 σ B' H' ρ → LamX.ExtN H H' → Ex (noTbl B) B' → (∀ a, B a = none → H a ≠ none → (∀ ps, H a ≠ some (.tbl ps)) → B' a = none) → DH B' v z → Q v H') :
    LamX.tLam (lawT X.PT X.PW) (TTX X.K mg CHx cA) (fun E => tCall (spO R) [] E ta) σ H Q := by
  obtain ⟨c, hr, w⟩ := x.w
  refine ⟨w.tabs, fun H1 x1 tb1 => ?_⟩
  obtain ⟨c1, hr1, w1⟩ := w.lam hr x1 tb1
  have y1 : LT X b0 σ (noTbl B) H1 ρ := ⟨x.n, x.n.ex x.b, c1, hr1, w1⟩
  have fin : ∀ v B' H', LT X b0 σ B' H' ρ → Gr (noTbl B) H1 B' H' → DH B' v z → Q v H' := fun v B' H' x' g dv => by
    refine k v B' H' x' (fun a o e n => g.h a o (x1 a o e n)) g.b (fun a h1 h2 h3 => g.n a (noTbl_none h1) ?_) dv
    cases e : H a with
    | none => exact absurd e h2
    | some o =>
      rw [x1 a o e fun ps z => h3 ps (by rw [e, z])]
      exact fun z => nomatch z
  refine h σ (noTbl B) H1 y1.t y1.ev _ fun vs B2 H2 g2 d2 => ⟨B2, ds, ou, g2.t, by rw [List.append_nil]; exact d2, hR, ?_⟩
  cases ou with
  | ok d =>
    have hz : z = .none := hz
    subst hz
    exact fun v B' H' g' _ => fin .non B' H' (y1.gr (g2.trans g')) (g2.trans g') .non
  | ex e =>
    obtain ⟨i, hx, ht⟩ := hz
    intro B' H' dx g' hdx
    have g3 := Gr.own (o := .xd e.2) g'.t hdx
    exact ⟨e.1, i, dx, e.2, z, B', rfl, hx.w, hx.k, rfl, upd_same, ht, g3.t, fun v B'' H'' g4 dv => fin v B'' H'' (y1.gr (((g2.trans g').trans g3).trans g4)) (((g2.trans g').trans g3).trans g4) dv⟩
/-- if word(..) is not None: .. -/
theorem lt_ifN {tLW : TE} {t : TS} (hW : ∀ Q : VK, (∀ v B' H', LT X b0 σ B' H' ρ → DH B' v .none → Q v H') → tLW σ H Q) (k : ∀ B' H', LT X b0 σ B' H' ρ → D.nx σ H') : tIfS (tTest (tOp rNotN tLW (tC .non))) t tNext D σ H := by
  refine hW _ fun v B1 H1 x1 dv => ?_
  cases dv
  exact ⟨rfl, _, rfl, k B1 H1 x1⟩
/-- if word(..) != e: .. -/
theorem lt_ifE {tLW te : TE} {t : TS} (hW : ∀ Q : VK, (∀ v B' H', LT X b0 σ B' H' ρ → DH B' v z → Q v H') → tLW σ H Q) (he : ED te ρ z) (sz : SeqAt.shaped z = true) (hq : PyData.eqv z z = true) (k : ∀ B' H', LT X b0 σ B' H' ρ → D.nx σ H') : tIfS (tTest (tOp (rNeD X.K) tLW te)) t tNext D σ H := by
  refine hW _ fun v B1 H1 x1 dv => ?_
  refine he σ B1 H1 x1.t x1.ev _ fun u B2 H2 g2 du => ?_
  refine r2_ne sz sz B2 H2 v u (x1.gr g2).t (dv.mono g2.b) du _ fun y B3 H3 g3 dy => ?_
  cases dy
  refine ⟨_, rfl, ?_⟩
  rw [hq]
  exact k B3 H3 (x1.gr (g2.trans g3))
/-- a list that grows, in the slot j -/
structure WL (X : LX) (b0 : Hp) (σ : L2.St) (B H : Hp) (ρ : Rho) (j : Nat) (p : Addr) (ds : List PyData) : Prop where
  x : LT X b0 σ B H ρ
  s : σ[j]? = some (some (.ref p))
  b : B p = none
  l : p ≠ X.l
  h : ∃ xs, H p = some (.lst xs) ∧ DHs B xs ds
/-- x = [word(..)] -/
theorem wl_new {tLW : TE} (x : LT X b0 σ B H ρ) (hj : j ≠ 1) (hl : j < σ.length) (hρ : ρ[j]? = some none) (hW : ∀ Q : VK, (∀ v B' H', LT X b0 σ B' H' ρ → DH B' v z → Q v H') → tLW σ H Q) (k : ∀ b0 p σ' B' H', WL X b0 σ' B' H' ρ j p [z] → D.nx σ' H') : tAsg (tLst (tCons tLW tNil)) (gName j) D σ H := by
  refine hW _ fun v B1 H1 x1 dv => ⟨by show 1 ≤ sizeLine; decide, fun p hp => ?_⟩
  have g := Gr.own (o := .lst [v]) x1.t hp
  have x2 := x1.gr g
  obtain ⟨a, b, c, hr⟩ := x1.l
  have hpl : p ≠ X.l := fun q => by rw [q, hr] at hp; cases hp
  have e2 : (ρ.set j none) = ρ := by
    refine List.ext_getElem? fun i => ?_
    rw [List.getElem?_set]
    by_cases hi : j = i
    · subst hi
      rw [if_pos rfl, if_pos (List.getElem?_eq_some_iff.mp hρ).1, hρ]
    · rw [if_neg hi]
  have ev := x2.ev.forget j (some (.ref p))
  rw [e2] at ev
  exact k b0 p _ B1 _ ⟨x2.env ev (List.getElem?_set_ne hj), List.getElem?_set_self hl, x1.t.nil hp, hpl, [v], upd_same, .cons dv .nil⟩
/-- x.append(word(..)) -/
theorem wl_app {tLW : TE} {p : Addr} (x : WL X b0 σ B H ρ j p ds) (hz : ds.length < 100000)
    (hW : ∀ Q : VK, (∀ v B' H', LT X b0 σ B' H' ρ → LamX.ExtN H H' → Ex (noTbl B) B' → (∀ a, B a = none → H a ≠ none → (∀ ps, H a ≠ some (.tbl ps)) → B' a = none) → DH B' v z → Q v H') → tLW σ H Q) (k : ∀ B' H', WL X b0 σ B' H' ρ j p (ds ++ [z]) → D.nx σ H') :
    tDrop (tBM X.K "list" rAppend (tVar j) (tCons tLW tNil)) D σ H := by
  obtain ⟨xs, h1, h2⟩ := x.h
  refine ⟨_, x.s, ⟨.inl ⟨rfl, xs, SqL.of h1⟩, ?_⟩⟩
  refine hW _ fun v B1 H1 x1 ex eb en dv => ?_
  have h3 := ex _ _ h1 (fun ps z => nomatch z)
  have nb := en p x.b (by rw [h1]; exact fun z => nomatch z) (fun ps z => by rw [h1] at z; cases z)
  have hx := h2.noTbl.mono eb
  refine ⟨p, xs, v, rfl, rfl, h3, by rw [hx.length]; exact Nat.lt_trans hz (by decide), ?_⟩
  refine k B1 _ ⟨?_, x.s, nb, x.l, _, upd_same, hx.append (.one dv)⟩
  obtain ⟨c, hr, w⟩ := x1.w
  have d := w.iv.d
  refine ⟨x1.n, x1.b, w.anew hr ⟨d.t.mut nb, ?_, d.scr, d.nl⟩ w.iv.e (Lmp.Tabs.put w.tabs h3)⟩
  obtain ⟨a, b, e, h, o⟩ := d.row
  exact ⟨a, b, e, by rw [upd_ne (by rw [hr.l]; exact fun q => x.l q.symm)]; exact h, o⟩
/-- the list is data from now on -/
theorem WL.data {p : Addr} (x : WL X b0 σ B H ρ j p ds) : ∃ B', LT X b0 σ B' H (ρ.set j (some (.list ds))) := by
  obtain ⟨xs, h1, h2⟩ := x.h
  have eb : Ex B (upd B p (.lst xs)) := Ex.new x.b
  have y := x.x.grow (B' := upd B p (.lst xs)) eb (fun a o e => ?_) (by rw [upd_ne (fun q => x.l q.symm)]; exact x.x.nl)
  · exact ⟨_, y.env (y.ev.tell j x.s (.lst upd_same (h2.mono eb))) rfl⟩
  · by_cases q : a = p
    · subst q
      rw [upd_same] at e
      cases e
      exact h1
    · rw [upd_ne q] at e
      exact x.x.t a o e
/-- a for over range(m) -/
theorem lt_rng {m : Nat} {tb : TS} (hm : m ≤ 1000) (hi : i ≠ 1) (I : Nat → L2.St → Hp → Prop) (h0 : I 0 σ H) (turn : ∀ n, n < m → ∀ σ H, I n σ H → ∀ N : L2.St → Hp → Prop, (∀ σ H, I (n + 1) σ H → N σ H) → tb { D with nx := N, ct := N, bk := D.nx } (σ.set i (some (.int (n : Nat)))) H)
    (k : ∀ σ H, I m σ H → D.nx σ H) : tFor (iRng1 (tCons (tC (.int (m : Nat))) tNil)) (gName i) tb D σ H := by
  refine ⟨(m : Nat), rfl, by omega, by omega, ?_⟩
  refine ⟨fun n w σ H => w = m - n ∧ n ≤ m ∧ I n σ H, ⟨m, by omega, Nat.zero_le _, h0⟩, ?_⟩
  rintro n w σ H ⟨rfl, hle, hI⟩
  by_cases hlt : n < m
  · right
    refine ⟨by show n < ((m : Nat) : Int).toNat; omega, fun σ H => n + 1 ≤ m ∧ I (n + 1) σ H, fun σ2 H2 ⟨q1, q2⟩ => ⟨m - (n + 1), by omega, rfl, q1, q2⟩, fun y H2 hy => ?_⟩
    obtain ⟨rfl, e⟩ := hy
    have e0 : (0 : Int) + ((n : Nat) : Int) = (n : Int) := Int.zero_add _
    rw [e0] at e
    subst e
    exact turn n hlt σ _ hI _ fun σ H h => ⟨hlt, h⟩
  · left
    have : n = m := by omega
    subst this
    exact ⟨by show ((n : Nat) : Int).toNat ≤ n; omega, k _ _ hI⟩
end
end Pd
/-! SemKF -/
set_option Elab.async false
set_option linter.all false
set_option maxRecDepth 100000
set_option maxHeartbeats 4000000
namespace Pd
variable [Pd.Wd]
open PySem PySem.Spec PyProof.Rows L2 PySem.W
local macro_rules | `(tactic| walk_at "ed") => `(tactic| repeat' (first
  | with_reducible (first
    | exact ed_int | exact ed_str | exact ed_bl | exact ed_non
    | exact ea_nil | refine' ea_cons ?_ ?_
    | refine' ed_isi ?_ ?_ | refine' ed_isi2 ?_ ?_ ?_
    | refine' ed_andV ?_ (fun _ => ?_) | refine' ed_orV ?_ (fun _ => ?_) | refine' ed_notV ?_
    | refine' ed_chain ?_ ?_ ?_ (fun _ => ⟨?_, ?_⟩)
    | refine' ed_tup ?_ ?_ | refine' ed_lst ?_ ?_
    | refine' et_not ?_ | refine' et_and ?_ (fun _ => ?_) | refine' et_or ?_ (fun _ => ?_) | exact et_yes
    | refine' et_test ?_ | refine' et_B ?_
    | refine' ed_op ?_ ?_ ?_
    | refine' ed_cb ?_ ?_)
  | exact ed_var rfl
  | exact kit_tt | exact kit_ii | exact kit_ib | exact kit_ll | exact kit_lt | exact kit_tl
  | exact r2_addI | exact r2_subI | exact r2_lt | exact r2_le | exact r2_gt | exact r2_ge | exact r2_isN | exact r2_notN
  | exact rc_lenT | exact rc_lenL | exact rc_intB | exact rc_tupL
  | with_reducible (first | refine' r2_eq ?_ ?_ | refine' r2_ne ?_ ?_)
  | exact sh_int _ | exact sh_sg _ | exact sh_cell _ | exact sh_edge _ | exact sh_pair _ | exact sh_str _ (by decide +kernel)
  | exact r2_ixT rfl | exact r2_ixL rfl
  | refine' ed_tup ?_ ?_
  | (show List.length _ ≤ 100000; simp; done)))
/-! ### good halls -/
theorem firstX_all {α : Type} {f : Nat → α → Option Exn} : ∀ {xs : List α} {n : Nat}, (∀ m x, xs[m]? = some x → f (n + m) x = none) → firstX f n xs = none
  | [], _, _ => rfl
  | x :: xs, n, h => by
    show Option.or (f n x) (firstX f (n + 1) xs) = none
    rw [show f n x = none from h 0 x rfl]
    show firstX f (n + 1) xs = none
    refine firstX_all fun m y hy => ?_
    have := h (m + 1) y (by simpa using hy)
    rw [show n + (m + 1) = n + 1 + m by omega] at this
    exact this
theorem chkEdges_ok {CH : Addr} {h : Hall} {part most : Nat} {es tk : List Edge} (hl : es.length ≤ most) (hA : ∀ e ∈ es, isEdge h e = true) (ht : ∀ e ∈ es, e ∉ tk) (hn : es.Nodup) : chkEdges CH h part es most tk = none := firstX_all fun m x hx => by
  have hm := (List.getElem?_eq_some_iff.mp hx).1
  have hmem := List.mem_of_getElem? hx
  unfold edgeX
  rw [Nat.zero_add, hA _ hmem, decide_eq_false (show ¬ m = most by omega), decide_eq_false (ht _ hmem), decide_eq_false (not_mem_take hn hx)]
  rfl
theorem chkStart_ok {CH CC : Addr} {h : Hall} {cs : List Cell} (o : HallOk h) (oc : CellsOk h cs) : chkStart CH CC h cs = none := by
  unfold chkStart chkHall
  rw [decide_eq_true o.rows, decide_eq_true o.cols, chkEdges_ok (tk := ([] : List Edge)) o.nwalls o.walls (fun e _ => List.not_mem_nil) o.nodupW, chkEdges_ok (es := doorsE h) (by unfold doorsE; rw [List.length_map]; exact o.ndoors) (fun e he => ?_) (fun e he => ?_) o.nodupD]
  · show chkCells CC h cs = none
    unfold chkCells
    rw [decide_eq_false (fun z => oc.pos (List.length_eq_zero_iff.mp z))]
    refine firstX_all fun m x hx => ?_
    have hm := (List.getElem?_eq_some_iff.mp hx).1
    have hmem := List.mem_of_getElem? hx
    have := oc.most
    unfold cellX
    rw [Nat.zero_add, oc.cells _ hmem, decide_eq_false (show ¬ m = 3 by omega), decide_eq_false (not_mem_take oc.nodup hx)]
    rfl
  · obtain ⟨x, hx, rfl⟩ := List.mem_map.mp he
    exact o.doors x hx
  · obtain ⟨x, hx, rfl⟩ := List.mem_map.mp he
    exact o.apart x hx
def toldH (p n : Nat) : PyData := .tuple [.str "hall", .int (p : Nat), .int (n : Nat)]
theorem ok_hallS : PyData.strOk "hall" = true := by decide +kernel
theorem sh_toldH (p n : Nat) : SeqAt.shaped (toldH p n) = true := shaped_of (by simpa [toldH, PyData.canLay0, PyData.canLayAll0] using ok_hallS) (by simp [toldH, PyData.depth, PyData.depthAll])
theorem eqv_toldH (p n : Nat) : PyData.eqv (toldH p n) (toldH p n) = true := by simp [toldH, PyData.eqv, PyData.eqvAll]
theorem word_hall {K : PySem.W.Frag} {mg : Str → Option Value} {CH CHx : Addr} {cA : Str → Addr} (xh : XcOk K mg CH CHx cA 4) (p n : Nat) : WordOf K mg CHx cA (.ex (exH CH (p : Nat) (n : Nat))) (toldH p n) := ⟨4, xh, .hall _ _ _ (by rfl) (by rfl)⟩
/-- the words of the lambdas -/
abbrev lwG (X : LX) (mg : Str → Option Value) (CHx : Addr) (cA : Str → Addr) (CH CC : Addr) (ta : TA) : TE := LamX.tLam (lawT X.PT X.PW) (TTX X.K mg CHx cA) (fun E => tCall (spO (RX_may CH CC)) [] E ta)
abbrev lwB (X : LX) (mg : Str → Option Value) (CHx : Addr) (cA : Str → Addr) (CH : Addr) (ta : TA) : TE := LamX.tLam (lawT X.PT X.PW) (TTX X.K mg CHx cA) (fun E => tCall (spO (RX_refG CH 1)) [] E ta)
section
variable {X : LX} {b0 : Hp} {σ σ' : L2.St} {B H B' H' : Hp} {ρ ρ' : Rho} {te tb : TE} {tt : TT} {ta : TA} {d e z : PyData} {ds : List PyData} {Q : VK} {D : Ends} {i j : Nat} {vs : List Nat} {mg : Str → Option Value} {CH CC CHx : Addr} {cA : Str → Addr} {P : PyData → Prop} {bad : PyData} {part num : Nat}
/-- a good hall is let by -/
theorem lw_good {h : Hall} {cs : List Cell} (x : LT X b0 σ B H ρ) (ho : HallOk h) (oc : CellsOk h cs) (ha : EA ta ρ [hallD h, cellsD cs])
    (k : ∀ v B' H', LT X b0 σ B' H' ρ → LamX.ExtN H H' → Ex (noTbl B) B' → (∀ a, B a = none → H a ≠ none → (∀ ps, H a ≠ some (.tbl ps)) → B' a = none) → DH B' v .none → Q v H') : lwG X mg CHx cA CH CC ta σ H Q := by
  have nw := ho.nwalls
  have nd := ho.ndoors
  have nc := oc.most
  refine lt_word2 (ou := .ok (.list ((movesD h (firstS h cs)).map fstD))) x ha ⟨h, cs, rfl, ho.ways, by omega, by omega, by omega, ?_⟩ rfl k
  rw [chkStart_ok ho oc]
  rfl
/-- a bad one is refused -/
theorem lw_bad (xh : XcOk X.K mg CH CHx cA 4) (x : LT X b0 σ B H ρ) (hb : BadH bad part num) (ha : EA ta ρ [bad, e])
    (k : ∀ v B' H', LT X b0 σ B' H' ρ → LamX.ExtN H H' → Ex (noTbl B) B' → (∀ a, B a = none → H a ≠ none → (∀ ps, H a ≠ some (.tbl ps)) → B' a = none) → DH B' v (toldH part num) → Q v H') : lwB X mg CHx cA CH ta σ H Q :=
  lt_word2 (ou := .ex (exH CH part num)) x ha ⟨bad, [e], _, rfl, rfl, hb.h, hb.c CH, rfl⟩ (word_hall xh part num) k
/-- all that takes a hall -/
theorem works_lc {Y : Cx} (xh : XcOk X.K mg CH CHx cA 4) (KR : ∀ z, ∀ W ∈ wks z, WkRun Y.prog Y.w Y.K Y.mg Y.base CH W) (x : LT X b0 σ B H ρ) (hN : ρ.length = 14) (h8 : ρ[8]? = some (some bad)) (h3 : ρ[3]? = some (some (.int (part : Nat)))) (h4 : ρ[4]? = some (some (.int (num : Nat)))) (h12 : ρ[12]? = some none) (hb : BadH bad part num)
    (k : ∀ p B' H', LT X b0 σ B' H' ρ → H' p = some (.lst []) → Q (.ref p) H') :
    tLc (iList X.K (tCallD (spWk X.K (lawT X.PT X.PW)) (tCons (tVar 8) tNil))) (gName 12) (tTest (tOp (rNeD X.K) (Lmp.tLamE Y 10 (nmL "_law_works") 12 (TTX X.K mg CHx cA)) (tTup (tCons (tC (.str "hall")) (tCons (tVar 3) (tCons (tVar 4) tNil)))))) (tVar 12) [12] σ H Q := by
  obtain ⟨v8, hv8, dv8⟩ := x.ev.get 8 _ h8
  refine ⟨v8, hv8, v8, rfl, x.tbs, fun p z vs' H1 e n t fp fz pz l L C => ?_⟩
  show Lmp.tLcK (iList X.K (tC (.ref p))) (gName 12) (fun _ => (tTest (tOp (rNeD X.K) (Lmp.tLamE Y 10 (nmL "_law_works") 12 (TTX X.K mg CHx cA)) (tTup (tCons (tC (.str "hall")) (tCons (tVar 3) (tCons (tVar 4) tNil))))))) (fun _ => tVar 12) [12] σ H1 Q
  obtain ⟨c, hr, w⟩ := x.w
  obtain ⟨c1, hr1, w1⟩ := w.lam hr e t
  have x1 : LT X b0 σ (noTbl B) H1 ρ := ⟨x.n, x.n.ex x.b, c1, hr1, w1⟩
  let PP : Hp → Prop := fun H' => ∃ B', LT X b0 σ B' H' ρ ∧ H' p = some (.lst vs') ∧ Lmp.Lams H' (wks z) vs' ∧ Lmp.CellsT [("_law_hall_here", z)] ["_law_hall_here"] [some v8] H' ∧ B' z = none ∧ H' z ≠ none ∧ DH B' v8 bad
  have grow : ∀ {B' H' B2 H2}, LT X b0 σ B' H' ρ ∧ H' p = some (.lst vs') ∧ Lmp.Lams H' (wks z) vs' ∧ Lmp.CellsT [("_law_hall_here", z)] ["_law_hall_here"] [some v8] H' ∧ B' z = none ∧ H' z ≠ none ∧ DH B' v8 bad → Gr B' H' B2 H2 → LT X b0 σ B2 H2 ρ ∧ H2 p = some (.lst vs') ∧ Lmp.Lams H2 (wks z) vs' ∧ Lmp.CellsT [("_law_hall_here", z)] ["_law_hall_here"] [some v8] H2 ∧ B2 z = none ∧ H2 z ≠ none ∧ DH B2 v8 bad := fun {B' H' B2 H2} ⟨a1, a2, a3, a4, a5, a6, a7⟩ g =>
    ⟨a1.gr g, g.h _ _ a2, a3.ext (extN_gr g), a4.ext (fun b o _ q => g.h b o q), g.n z a5 a6, Ex.nn g.h a6, a7.mono g.b⟩
  have hz1 : H1 z ≠ none := fun q => by
    obtain ⟨o, _, h1, _⟩ := C.all "_law_hall_here" z (.head _)
    rw [q] at h1
    cases h1
  have P1 : PP H1 := ⟨noTbl B, x1, l, L, C, noTbl_none (x.t.nil fz), hz1, dv8.noTbl⟩
  refine Lmp.lcK_empty (p := p) (xs := vs') (P := PP) (fun R hR => hR H1 P1) (fun H' ⟨_, _, h, _⟩ => SqL.of h) (fun H' Dl ⟨B', a⟩ hD => ⟨B', grow a (Gr.own a.1.t hD)⟩) (fun v hv Dl H' ⟨B', a⟩ hD R hR => ?_) fun Dl H' ⟨B', a⟩ hD => k Dl B' H' a.1 hD
  obtain ⟨W, hW, f, c', rfl, hl, hc⟩ := a.2.2.1.mem hv
  obtain ⟨N, as, kk, tE, RR, ⟨hNl, hal⟩, ht⟩ := KR z W hW c'
  obtain ⟨hq, hcl⟩ := wks_q z W hW c'
  have hcc := wks_c z W hW c'
  have hlen : σ.length = 14 := by rw [a.1.ev.len, hN]
  have ys := a.1.slot (i := 12) (some (V.ref f)) (by decide) h12
  have hst : NdefX.startF N as [some v8] = as.map some ++ [some v8] := by
    unfold NdefX.startF
    rw [hNl, hal]
    show _ ++ ([some v8] ++ List.replicate (kk + 1 - kk - 1) none) = _
    rw [show kk + 1 - kk - 1 = 0 by omega]
    rfl
  refine lt_wordE (z := toldH part num) (ρ2 := List.replicate kk none ++ [some bad]) ys (List.getElem?_set_self (by show 12 < (σ.set 12 none).length; rw [List.length_set, hlen]; decide)) RR hq hl (by rw [hcc]; exact hc) (by rw [hcl]; exact a.2.2.2.1) (fun c hm => ?_) ⟨?_, fun i d hd => ?_⟩ (fun E => ht bad _ hb.h (hb.c CH) E _ (by rw [List.getElem?_append_right (by simp)]; simp)) (word_hall xh part num) fun v B2 H2 y2 g2 dv => ?_
  · have : (W.1 c').cs = [z] := by
      show (W.1 c').cl.map (·.2) = [z]
      rw [hcl]
      rfl
    rw [this] at hm
    rw [List.mem_singleton.mp hm]
    exact a.2.2.2.2.1
  · rw [hst]
    simp [hal]
  · rw [hst]
    rw [List.getElem?_append] at hd
    split at hd
    · rw [List.getElem?_replicate] at hd
      split at hd <;> cases hd
    · rename_i hge
      rw [List.length_replicate] at hd hge
      have h0 : i - kk = 0 := by
        cases q : i - kk with
        | zero => rfl
        | succ m => rw [q] at hd; simp at hd
      rw [h0] at hd
      cases hd
      have : i = kk := by omega
      subst this
      refine ⟨v8, ?_, a.2.2.2.2.2.2⟩
      rw [List.getElem?_append_right (by rw [List.length_map, hal]; exact Nat.le_refl _), List.length_map, hal, Nat.sub_self]
      rfl
  · have he : ED (tTup (tCons (tC (.str "hall")) (tCons (tVar 3) (tCons (tVar 4) tNil)))) ρ (toldH part num) := ed_tup (ea_cons ed_str (ea_cons (ed_var h3) (ea_cons (ed_var h4) ea_nil))) (by simp)
    refine he _ B2 H2 y2.t y2.ev _ fun u B3 H3 g3 du => ?_
    refine r2_ne (sh_toldH _ _) (sh_toldH _ _) B3 H3 v u (y2.gr g3).t (dv.mono g3.b) du _ fun y B4 H4 g4 dy => ?_
    cases dy
    refine ⟨_, rfl, ?_⟩
    rw [eqv_toldH]
    have gg := (g2.trans g3).trans g4
    exact hR H4 ⟨B4, grow a gg⟩ (gg.h _ _ hD)
theorem lt_works {Y : Cx} {t : TS} (xh : XcOk X.K mg CH CHx cA 4) (KR : ∀ z, ∀ W ∈ wks z, WkRun Y.prog Y.w Y.K Y.mg Y.base CH W) (x : LT X b0 σ B H ρ) (hN : ρ.length = 14) (h8 : ρ[8]? = some (some bad)) (h3 : ρ[3]? = some (some (.int (part : Nat)))) (h4 : ρ[4]? = some (some (.int (num : Nat)))) (h12 : ρ[12]? = some none) (hb : BadH bad part num)
    (k : ∀ B' H', LT X b0 σ B' H' ρ → D.nx σ H') :
    tIfS (tTest (tOp (rNeD X.K) (tLc (iList X.K (tCallD (spWk X.K (lawT X.PT X.PW)) (tCons (tVar 8) tNil))) (gName 12) (tTest (tOp (rNeD X.K) (Lmp.tLamE Y 10 (nmL "_law_works") 12 (TTX X.K mg CHx cA)) (tTup (tCons (tC (.str "hall")) (tCons (tVar 3) (tCons (tVar 4) tNil)))))) (tVar 12) [12]) (tLst tNil))) t tNext D σ H := by
  have key : ∀ QQ : VK, (∀ p B' H', LT X b0 σ B' H' ρ → H' p = some (.lst []) → QQ (.ref p) H') → tLc (iList X.K (tCallD (spWk X.K (lawT X.PT X.PW)) (tCons (tVar 8) tNil))) (gName 12) (tTest (tOp (rNeD X.K) (Lmp.tLamE Y 10 (nmL "_law_works") 12 (TTX X.K mg CHx cA)) (tTup (tCons (tC (.str "hall")) (tCons (tVar 3) (tCons (tVar 4) tNil)))))) (tVar 12) [12] σ H QQ := fun QQ h => works_lc xh KR x hN h8 h3 h4 h12 hb h
  generalize tLc (iList X.K (tCallD (spWk X.K (lawT X.PT X.PW)) (tCons (tVar 8) tNil))) (gName 12) (tTest (tOp (rNeD X.K) (Lmp.tLamE Y 10 (nmL "_law_works") 12 (TTX X.K mg CHx cA)) (tTup (tCons (tC (.str "hall")) (tCons (tVar 3) (tCons (tVar 4) tNil)))))) (tVar 12) [12] = TL at key ⊢
  refine key _ fun p B' H' y hp => ?_
  have hpl : p ≠ X.l := fun q => by
    obtain ⟨a, b, c, hr⟩ := y.l
    rw [q, hr] at hp
    cases hp
  have eb : Ex B' (upd B' p (.lst [])) := fun a o e => by
    by_cases q : a = p
    · subst q
      have := y.t _ _ e
      rw [hp] at this
      cases this
      exact upd_same
    · exact (upd_ne q).trans e
  have y2 : LT X b0 σ (upd B' p (.lst [])) H' ρ := y.grow eb (fun a o e => by
    by_cases q : a = p
    · subst q
      rw [upd_same] at e
      cases e
      exact hp
    · rw [upd_ne q] at e
      exact y.t a o e) (by rw [upd_ne fun q => hpl q.symm]; exact y.nl)
  have he : ED (tLst tNil) ρ (.list []) := ed_lst ea_nil (by simp)
  refine he σ _ H' y2.t y2.ev _ fun u B3 H3 g3 du => ?_
  have dv : DH (upd B' p (.lst [])) (.ref p) (.list []) := .lst upd_same .nil
  have sn : SeqAt.shaped (.list []) = true := shaped_of (by simp [PyData.canLay0, PyData.canLayAll0]) (by simp [PyData.depth, PyData.depthAll])
  refine r2_ne sn sn B3 H3 _ u (y2.gr g3).t (dv.mono g3.b) du _ fun y' B4 H4 g4 dy => ?_
  cases dy
  refine ⟨_, rfl, ?_⟩
  rw [eqv_nilL]
  exact k B4 H4 (y2.gr (g3.trans g4))
end
end Pd
/-! SemKG -/
set_option Elab.async false
set_option linter.all false
set_option maxRecDepth 100000
set_option maxHeartbeats 4000000
namespace Pd
variable [Pd.Wd]
open PySem PySem.Spec PyProof.Rows L2 PySem.W
local macro_rules | `(tactic| walk_at "ed") => `(tactic| repeat' (first
  | with_reducible (first
    | exact ed_int | exact ed_str | exact ed_bl | exact ed_non
    | exact ea_nil | refine' ea_cons ?_ ?_
    | refine' ed_isi ?_ ?_ | refine' ed_isi2 ?_ ?_ ?_
    | refine' ed_andV ?_ (fun _ => ?_) | refine' ed_orV ?_ (fun _ => ?_) | refine' ed_notV ?_
    | refine' ed_chain ?_ ?_ ?_ (fun _ => ⟨?_, ?_⟩)
    | refine' ed_tup ?_ ?_ | refine' ed_lst ?_ ?_
    | refine' et_not ?_ | refine' et_and ?_ (fun _ => ?_) | refine' et_or ?_ (fun _ => ?_) | exact et_yes
    | refine' et_test ?_ | refine' et_B ?_
    | refine' ed_op ?_ ?_ ?_
    | refine' ed_cb ?_ ?_)
  | exact ed_var rfl
  | exact kit_tt | exact kit_ii | exact kit_ib | exact kit_ll | exact kit_lt | exact kit_tl
  | exact r2_addI | exact r2_subI | exact r2_lt | exact r2_le | exact r2_gt | exact r2_ge | exact r2_isN | exact r2_notN
  | exact rc_lenT | exact rc_lenL | exact rc_intB | exact rc_tupL
  | with_reducible (first | refine' r2_eq ?_ ?_ | refine' r2_ne ?_ ?_)
  | exact sh_int _ | exact sh_sg _ | exact sh_cell _ | exact sh_edge _ | exact sh_pair _ | exact sh_str _ (by decide +kernel)
  | exact r2_ixT rfl | exact r2_ixL rfl
  | refine' ed_tup ?_ ?_
  | (show List.length _ ≤ 100000; simp; done)))
/-! ### a turn of the law -/
abbrev r14 : Rho := [none, none, none, none, none, none, none, none, none, none, none, none, none, none]
def LS (X : LX) (σ : L2.St) (H : Hp) : Prop := ∃ b0 B, LT X b0 σ B H r14
theorem cells00 {h : Hall} (o : HallOk h) : CellsOk h [(0, 0)] := by
  have h1 := o.rows
  have h2 := o.cols
  refine ⟨by simp, by simp, fun c hc => ?_, by simp⟩
  rw [List.mem_singleton.mp hc]
  unfold inH
  exact decide_eq_true ⟨by simp, by show (0 : Int) < _; omega, by simp, by show (0 : Int) < _; omega⟩
theorem bad_listW {h : Hall} (o : HallOk h) (ws : List PyData) : BadH (.tuple [.int h.rows, .int h.cols, .list ws, .int 5]) 2 0 := by
  refine ⟨⟨(fun _ z => nomatch z), fun r c w dd e => ?_⟩, fun CH => ?_, by decide, by omega⟩
  · cases e
    exact ⟨(fun _ z => nomatch z), (fun _ z => nomatch z), (fun _ z => nomatch z), (fun _ z => nomatch z), fun ws e => (nomatch e), fun ds e => nomatch e⟩
  · exact four_ok o CH _ _
theorem bad_listD {h : Hall} (o : HallOk h) (ds : List PyData) : BadH (.tuple [.int h.rows, .int h.cols, .tuple (h.walls.map edgeD), .list ds]) 3 0 := by
  refine ⟨⟨(fun _ z => nomatch z), fun r c w dd e => ?_⟩, fun CH => ?_, by decide, by omega⟩
  · cases e
    refine ⟨(fun _ z => nomatch z), (fun _ z => nomatch z), (fun _ z => nomatch z), (fun _ z => nomatch z), fun ws e => ?_, fun ds e => nomatch e⟩
    cases e
    exact edges_ok _
  · rw [four_ok o]
    show Option.or (chkEdgesG CH h.rows h.cols 2 (h.walls.map edgeD) 24 []) _ = _
    rw [chk_walls o CH]
    rfl
def pairsH (h : Hall) : List (PyData × Nat × Nat) := [(.tuple [hallD h, .int 0], 0, 0), (.int 5, 0, 0), (.list [.int h.rows, .int h.cols, .tuple (h.walls.map edgeD), .tuple (h.doors.map edgeD)], 0, 0),
  (.tuple [.int h.rows, .int h.cols, .tuple (h.walls.map edgeD), .tuple (h.doors.map edgeD), .int 1], 0, 0), (.tuple [.int h.rows, .int h.cols, .list (h.walls.map edgeD), .int 5], 2, 0), (.tuple [.int h.rows, .int h.cols, .tuple (h.walls.map edgeD), .list (h.doors.map edgeD)], 3, 0)]
def encP (y : PyData × Nat × Nat) : PyData := .tuple [y.1, .int (y.2.1 : Nat), .int (y.2.2 : Nat)]
theorem pairs_bad {h : Hall} (o : HallOk h) : ∀ y ∈ pairsH h, BadH y.1 y.2.1 y.2.2 := fun y hy => by
  unfold pairsH at hy
  simp only [List.mem_cons, List.not_mem_nil, or_false] at hy
  rcases hy with rfl | rfl | rfl | rfl | rfl | rfl
  · exact bad_form (fun _ z => nomatch z) (fun _ _ _ _ z => nomatch z)
  · exact bad_form (fun _ z => nomatch z) (fun _ _ _ _ z => nomatch z)
  · exact bad_form (fun _ z => nomatch z) (fun _ _ _ _ z => nomatch z)
  · exact bad_form (fun _ z => nomatch z) (fun _ _ _ _ z => nomatch z)
  · exact bad_listW o _
  · exact bad_listD o _
section
variable {X : LX} {b0 : Hp} {σ σ' : L2.St} {B H B' H' : Hp} {ρ ρ' : Rho} {D : Ends} {mg : Str → Option Value} {CH CC CHx : Addr} {cA : Str → Addr}
theorem gd3 {b p n : PyData} {K : PySem.W.Frag} {ρ : Rho} : GD (gTup K 3 (gCons (gName 8) (gCons (gName 3) (gCons (gName 4) gNil)))) ρ (.tuple [b, p, n]) (((ρ.set 8 (some b)).set 3 (some p)).set 4 (some n)) [8, 3, 4] :=
  gd_tup (gds_cons (gd_name (by simp)) (gds_cons (gd_name (by simp)) (gds_cons (gd_name (by simp)) gds_nil))) rfl
theorem law_turn01 {Y : Cx} (xh : XcOk X.K mg CH CHx cA 4) (KR : ∀ z, ∀ W ∈ wks z, WkRun Y.prog Y.w Y.K Y.mg Y.base CH W) (x : LS X σ H) (next : ∀ σ H, LS X σ H → D.nx σ H) :
    (tSeq (tAsg (tCallD (spW X.K P_hall R_hall) (tCons (tVar 1) (tCons (tC (.int 5)) (tCons (tC (.int 6)) tNil)))) (gName 10)) (tSeq (tIfS (tTest (tOp rNotN (lwG X mg CHx cA CH CC (tCons (tVar 10) (tCons (tTup (tCons (tTup (tCons (tC (.int 0)) (tCons (tC (.int 0)) tNil))) tNil)) tNil))) (tC .non))) (tRet (tC (.bl false))) tNext) (tSeq (tAsg (tCallD (spW X.K P_odd R_odd) (tCons (tVar 1) (tCons (tVar 10) tNil))) (gTup X.K 3 (gCons (gName 8) (gCons (gName 3) (gCons (gName 4) gNil))))) (tSeq (tIfS (tTest (tOp (rNeD X.K) (tLc (iList X.K (tCallD (spWk X.K (lawT X.PT X.PW)) (tCons (tVar 8) tNil))) (gName 12) (tTest (tOp (rNeD X.K) (Lmp.tLamE Y 10 (nmL "_law_works") 12 (TTX X.K mg CHx cA)) (tTup (tCons (tC (.str "hall")) (tCons (tVar 3) (tCons (tVar 4) tNil)))))) (tVar 12) [12]) (tLst tNil))) (tRet (tC (.bl false))) tNext) (tSeq (tAsg (tLst (tCons (tTup (tCons (tTup (tCons (tVar 10) (tCons (tC (.int 0)) tNil))) (tCons (tC (.int 0)) (tCons (tC (.int 0)) tNil)))) (tCons (tTup (tCons (tC (.int 5)) (tCons (tC (.int 0)) (tCons (tC (.int 0)) tNil)))) (tCons (tTup (tCons (tCB (rListX X.K) (tCons (tVar 10) tNil)) (tCons (tC (.int 0)) (tCons (tC (.int 0)) tNil)))) (tCons (tTup (tCons (tOp (rAddX X.K) (tVar 10) (tTup (tCons (tC (.int 1)) tNil))) (tCons (tC (.int 0)) (tCons (tC (.int 0)) tNil)))) tNil))))) (gName 5)) (tSeq (tDrop (tBM X.K "list" rAppend (tVar 5) (tCons (tTup (tCons (tOp (rAddX X.K) (tSl (rSlX X.K) (tVar 10) tNoPart (tPart (tC (.int 2)))) (tTup (tCons (tCB (rListX X.K) (tCons (tOp (rIx X.K) (tVar 10) (tC (.int 2))) tNil)) (tCons (tC (.int 5)) tNil)))) (tCons (tC (.int 2)) (tCons (tC (.int 0)) tNil)))) tNil))) (tSeq (tDrop (tBM X.K "list" rAppend (tVar 5) (tCons (tTup (tCons (tOp (rAddX X.K) (tSl (rSlX X.K) (tVar 10) tNoPart (tPart (tC (.int 3)))) (tTup (tCons (tCB (rListX X.K) (tCons (tOp (rIx X.K) (tVar 10) (tC (.int 3))) tNil)) tNil))) (tCons (tC (.int 3)) (tCons (tC (.int 0)) tNil)))) tNil))) (tFor (iList X.K (tVar 5)) (gTup X.K 3 (gCons (gName 8) (gCons (gName 3) (gCons (gName 4) gNil)))) (tIfS (tTest (tOp (rNeD X.K) (lwB X mg CHx cA CH (tCons (tVar 8) (tCons (tC (.int 5)) tNil))) (tTup (tCons (tC (.str "hall")) (tCons (tVar 3) (tCons (tVar 4) tNil)))))) (tRet (tC (.bl false))) tNext))))))))) D σ H := by
  obtain ⟨b0, B, x⟩ := x
  refine go_seq ?_
  refine lt_draw (P := fun z => ∃ h, HallOk h ∧ z = hallD h) x (fun c hr => (ei_callW1 (R := R_hall) (P' := (· = [.int 5, .int 6])) hr (ai_pure (ea_cons ed_int (ea_cons ed_int ea_nil))) (fun ds e => e)).imp (fun z ⟨ds, _, r⟩ => r)) (by decide) ?_
  rintro z ⟨h, ho, rfl⟩ b0 σ B H x
  have x : LT X b0 σ B H [none, none, none, none, none, none, none, none, none, none, some (hallD h), none, none, none] := x
  dsimp only
  refine go_seq ?_
  refine lt_ifN (fun Q q => lw_good x ho (cells00 ho) (ea_cons (ed_var rfl) (ea_cons (ed_tup (ea_cons (ed_tup (ea_cons ed_int (ea_cons ed_int ea_nil)) (by simp)) ea_nil) (by simp)) ea_nil)) fun v B' H' x _ _ _ dv => q v B' H' x dv) fun B H x => ?_
  dsimp only
  refine go_seq ?_
  refine lt_drawG (P := fun d => ∃ (bad : PyData) (part num : Nat), d = .tuple [bad, .int (part : Nat), .int (num : Nat)] ∧ BadH bad part num) (vs := [8, 3, 4])
    (ρ1 := fun d => match d with | .tuple [b, p, n] => [none, none, none, some p, some n, none, none, none, some b, none, some (hallD h), none, none, none] | _ => []) x (fun c hr => (ei_callW1 (R := R_odd) (P' := (· = [hallD h])) hr (ai_pure (ea_cons (ed_var rfl) ea_nil)) (fun ds e => ⟨h, ho, e⟩)).imp (fun z ⟨ds, _, r⟩ => r)) (fun d hd => ?_) (by decide) ?_
  · obtain ⟨bad, part, num, rfl, _⟩ := hd
    exact gd3
  rintro d ⟨bad, part, num, rfl, hb⟩ b0 σ B H x
  have x : LT X b0 σ B H [none, none, none, some (.int (part : Nat)), some (.int (num : Nat)), none, none, none, some bad, none, some (hallD h), none, none, none] := x
  dsimp only
  refine go_seq ?_
  refine lt_works (Y := Y) xh KR x rfl rfl rfl rfl rfl hb fun B H x => ?_
  dsimp only
  refine go_seq ?_
  obtain ⟨c, hc0, w⟩ := x.w
  have hrn : ∀ i : Nat, 1 < i → i ≠ c.r := fun i hi => by rw [hc0.r]; omega
  have o : Iv c (fun _ => 0) σ B H _ [] := w.iv
  refine go_own (ds := [.tuple [.tuple [hallD h, .int 0], .int 0, .int 0], .tuple [.int 5, .int 0, .int 0], .tuple [.list [.int h.rows, .int h.cols, .tuple (h.walls.map edgeD), .tuple (h.doors.map edgeD)], .int 0, .int 0], .tuple [.tuple [.int h.rows, .int h.cols, .tuple (h.walls.map edgeD), .tuple (h.doors.map edgeD), .int 1], .int 0, .int 0]]) o (en_lst (ea_cons (ed_tup (ea_cons (ed_tup (ea_cons (ed_var rfl) (ea_cons ed_int ea_nil)) (by simp)) (ea_cons ed_int (ea_cons ed_int ea_nil))) (by simp)) (ea_cons (ed_tup (ea_cons ed_int (ea_cons ed_int (ea_cons ed_int ea_nil))) (by simp)) (ea_cons (ed_tup (ea_cons (ed_cb (ea_cons (ed_var (d := hallD h) rfl) ea_nil) rc_listT) (ea_cons ed_int (ea_cons ed_int ea_nil))) (by simp)) (ea_cons (ed_tup (ea_cons (ed_op (ed_var (d := hallD h) rfl) (ed_tup (ea_cons ed_int ea_nil) (by simp)) (r2_catT (by simp))) (ea_cons ed_int (ea_cons ed_int ea_nil))) (by simp)) ea_nil)))) (by simp)) (hrn _ (by decide)) (by simp) (by simp) fun A σ B H o => ?_
  have o : Iv c A σ B H [none, none, none, some (.int (part : Nat)), some (.int (num : Nat)), none, none, none, some bad, none, some (hallD h), none, none, none] _ := o
  have h2 : ED (tOp (rAddX X.K) (tSl (rSlX X.K) (tVar 10) tNoPart (tPart (tC (.int 2)))) (tTup (tCons (tCB (rListX X.K) (tCons (tOp (rIx X.K) (tVar 10) (tC (.int 2))) tNil)) (tCons (tC (.int 5)) tNil)))) [none, none, none, some (.int (part : Nat)), some (.int (num : Nat)), none, none, none, some bad, none, some (hallD h), none, none, none] (.tuple [.int h.rows, .int h.cols, .list (h.walls.map edgeD), .int 5]) :=
    ed_op (ed_cutT (ds := [.int h.rows, .int h.cols, .tuple (h.walls.map edgeD), .tuple (h.doors.map edgeD)]) (k := 2) (ed_var rfl) ed_int (by simp)) (ed_tup (ea_cons (ed_cb (ea_cons (d := .tuple (h.walls.map edgeD)) (ed_op (ed_var (d := hallD h) rfl) ed_int (r2_ixT rfl)) ea_nil) rc_listT) (ea_cons ed_int ea_nil)) (by simp)) (r2_catT (by simp))
  have h3 : ED (tOp (rAddX X.K) (tSl (rSlX X.K) (tVar 10) tNoPart (tPart (tC (.int 3)))) (tTup (tCons (tCB (rListX X.K) (tCons (tOp (rIx X.K) (tVar 10) (tC (.int 3))) tNil)) tNil))) [none, none, none, some (.int (part : Nat)), some (.int (num : Nat)), none, none, none, some bad, none, some (hallD h), none, none, none] (.tuple [.int h.rows, .int h.cols, .tuple (h.walls.map edgeD), .list (h.doors.map edgeD)]) :=
    ed_op (ed_cutT (ds := [.int h.rows, .int h.cols, .tuple (h.walls.map edgeD), .tuple (h.doors.map edgeD)]) (k := 3) (ed_var rfl) ed_int (by simp)) (ed_tup (ea_cons (ed_cb (ea_cons (d := .tuple (h.doors.map edgeD)) (ed_op (ed_var (d := hallD h) rfl) ed_int (r2_ixT rfl)) ea_nil) rc_listT) ea_nil) (by simp)) (r2_catT (by simp))
  dsimp only
  refine go_seq ?_
  refine go_app (P := (· = .tuple [.tuple [.int h.rows, .int h.cols, .list (h.walls.map edgeD), .int 5], .int 2, .int 0])) o (by simp) (ei_pure (ed_tup (ea_cons h2 (ea_cons ed_int (ea_cons ed_int ea_nil))) (by simp))) (by simp) ?_
  rintro d rfl B H o
  dsimp only
  refine go_seq ?_
  refine go_app (P := (· = .tuple [.tuple [.int h.rows, .int h.cols, .tuple (h.walls.map edgeD), .list (h.doors.map edgeD)], .int 3, .int 0])) o (by simp) (ei_pure (ed_tup (ea_cons h3 (ea_cons ed_int (ea_cons ed_int ea_nil))) (by simp))) (by simp) ?_
  rintro d rfl B H o
  obtain ⟨B', _, o'⟩ := o.own_in (by simp)
  have x2 : LT X (noTbl B') σ B' H [none, none, none, some (.int (part : Nat)), some (.int (num : Nat)), some (.list ((pairsH h).map encP)), none, none, some bad, none, some (hallD h), none, none, none] := ⟨noT_noTbl B', noTbl_ex B', c, hc0, ⟨o'.no, w.tb, w.rl⟩⟩
  obtain ⟨v5, hv5, dv5⟩ := x2.ev.get 5 _ rfl
  have x3 : LT X (noTbl B') σ B' H r14 := x2.less ((((((Rle.refl r14).set (i := 3) (o := some (.int (part : Nat))) rfl).set (i := 4) (o := some (.int (num : Nat))) rfl).set (i := 5) (o := some (.list ((pairsH h).map encP))) rfl).set (i := 8) (o := some bad) rfl).set (i := 10) (o := some (hallD h)) rfl)
  change tVar 5 σ H (fun v H1 => tFor (iList X.K (tC v)) (gTup X.K 3 (gCons (gName 8) (gCons (gName 3) (gCons (gName 4) gNil)))) _ D σ H1)
  refine ⟨v5, hv5, lt_for encP x3 dv5 (fun y hy b0 σ B H N v' x dv' nx => ?_) fun σ B H x => next σ H ⟨_, B, x⟩⟩
  have hb := pairs_bad ho y hy
  refine lt_gd x dv' gd3 (by decide) fun σ' x => ?_
  have x : LT X b0 σ' B H [none, none, none, some (.int (y.2.1 : Nat)), some (.int (y.2.2 : Nat)), none, none, none, some y.1, none, none, none, none, none] := x
  refine lt_ifE (z := toldH y.2.1 y.2.2) (fun Q q => lw_bad (e := .int 5) xh x hb (ea_cons (ed_var rfl) (ea_cons ed_int ea_nil)) fun v B' H' x _ _ _ dv => q v B' H' x dv) (ed_tup (ea_cons ed_str (ea_cons (ed_var rfl) (ea_cons (ed_var rfl) ea_nil))) (by simp)) (sh_toldH _ _) (eqv_toldH _ _) fun B' H' x => ?_
  exact nx σ' B' H' (x.less ((((Rle.refl r14).set (i := 3) (o := some (.int (y.2.1 : Nat))) rfl).set (i := 4) (o := some (.int (y.2.2 : Nat))) rfl).set (i := 8) (o := some y.1) rfl))
end
/-! ### the end of the law -/
def hW : Hall := ⟨5, 5, (leftOf 5 5).take 24, []⟩
def doors7 : List Edge := [(1, 1, .n), (1, 2, .n), (1, 3, .n), (1, 4, .n), (4, 1, .s), (4, 2, .s), (4, 3, .s)]
def hDr : Hall := ⟨5, 5, [], doors7.take 6⟩
theorem left5 : (leftOf 5 5).Nodup ∧ ∀ e ∈ leftOf 5 5, isEdge ⟨5, 5, [], []⟩ e = true := look_left (rows := 5) (wide := 5) (by decide) (by decide)
theorem left_24 : (leftOf 5 5)[24]? = some (3, 2, .h) := by decide +kernel
theorem left_len : (leftOf 5 5).length = 40 := by decide +kernel
theorem hW_ok : HallOk hW := by
  refine ⟨by decide, by decide, ?_, by decide, fun e he => ?_, left5.1.sublist (List.take_sublist _ _), (fun _ z => nomatch z), (fun _ z => nomatch z), (fun _ z => nomatch z), by decide⟩
  · show ((leftOf 5 5).take 24).length ≤ 24
    rw [List.length_take]
    omega
  · have := left5.2 e (List.mem_of_mem_take he)
    exact (isEdge_rc (h := hW) (h' := ⟨5, 5, [], []⟩) rfl rfl e).trans this
theorem hDr_ok : HallOk hDr := by
  refine ⟨by decide, by decide, by decide, by decide, (fun _ z => nomatch z), by decide, fun e he => ?_, fun e he => ?_, (fun _ _ z => nomatch z), by decide +kernel⟩
  · have : ∀ e ∈ doors7.take 6, e.2.2 = .e ∨ e.2.2 = .n ∨ e.2.2 = .s ∨ e.2.2 = .w := by decide
    exact this e he
  · have : ∀ e ∈ doors7.take 6, isEdge hDr (edgeFrom e.1 e.2.1 e.2.2) = true := by decide +kernel
    exact this e he
theorem bad_24 : BadH (.tuple [.int 5, .int 5, .tuple (((leftOf 5 5).take 25).map edgeD), .int 5]) 2 24 := by
  have hl : ((leftOf 5 5).take 24).length = 24 := by rw [List.length_take, left_len]; rfl
  have e25 : ((leftOf 5 5).take 25).map edgeD = ((leftOf 5 5).take 24).map edgeD ++ edgeD (3, 2, .h) :: [] := by
    rw [show (25 : Nat) = 24 + 1 from rfl, List.take_add_one, left_24, List.map_append]
    rfl
  refine ⟨⟨(fun _ z => nomatch z), fun r c w dd e => ?_⟩, fun CH => ?_, by decide, by decide⟩
  · cases e
    refine ⟨(fun _ z => nomatch z), (fun _ z => nomatch z), (fun _ z => nomatch z), (fun _ z => nomatch z), fun ws e => ?_, fun ds e => nomatch e⟩
    cases e
    exact edges_ok _
  · have := four_ok hW_ok CH (.tuple (((leftOf 5 5).take 25).map edgeD)) (.int 5)
    refine this.trans ?_
    show Option.or (chkEdgesG CH hW.rows hW.cols 2 _ 24 (([] : List Edge).map edgeD)) _ = _
    have k := chk_most (CH := CH) (h := hW) (part := 2) (A := (leftOf 5 5).take 24) (B := []) (x := edgeD (3, 2, .h)) (tk := []) hW_ok.walls hW_ok.nodupW (fun _ _ z => nomatch z)
    rw [hl] at k
    rw [e25, k]
    rfl
theorem bad_6 : BadH (.tuple [.int 5, .int 5, .tuple [], .tuple (doors7.map edgeD)]) 3 6 := by
  refine ⟨⟨(fun _ z => nomatch z), fun r c w dd e => ?_⟩, fun CH => ?_, by decide, by decide⟩
  · cases e
    refine ⟨(fun _ z => nomatch z), (fun _ z => nomatch z), (fun _ z => nomatch z), (fun _ z => nomatch z), fun ws e => ?_, fun ds e => ?_⟩
    · cases e
      exact edges_ok []
    · cases e
      refine ⟨by decide, fun e he => ?_⟩
      obtain ⟨e, _, rfl⟩ := List.mem_map.mp he
      exact drOk_edge e
  · have := four_ok hDr_ok CH (.tuple []) (.tuple (doors7.map edgeD))
    refine this.trans ?_
    show Option.or (chkEdgesG CH hDr.rows hDr.cols 2 (([] : List Edge).map edgeD) 24 (([] : List Edge).map edgeD)) (chkEdgesG CH hDr.rows hDr.cols 3 (doorsG (doors7.map edgeD)) 6 (([] : List Edge).map edgeD)) = _
    rw [chk_all (A := ([] : List Edge)) (tk := ([] : List Edge)) (fun e z => absurd z List.not_mem_nil) .nil (fun e z => absurd z List.not_mem_nil) (by simp), doorsG_map (by
      have : ∀ e ∈ doors7, e.2.2 = .e ∨ e.2.2 = .n ∨ e.2.2 = .s ∨ e.2.2 = .w := by decide
      exact this)]
    have k := chk_most (CH := CH) (h := hDr) (part := 3) (A := (doors7.take 6).map ef) (B := []) (x := edgeD (ef (4, 3, .s))) (tk := []) (fun e he => by
      obtain ⟨x, hx, rfl⟩ := List.mem_map.mp he
      exact hDr_ok.doors x hx) hDr_ok.nodupD (fun _ _ z => nomatch z)
    exact k
section
variable {X : LX} {b0 : Hp} {σ σ' : L2.St} {B H B' H' : Hp} {ρ ρ' : Rho} {D : Ends} {mg : Str → Option Value} {CH CC CHx : Addr} {cA : Str → Addr}
theorem ed_row5 {n : Nat} (hn : n < 5) {ds : List Edge} (hl : ds.length ≤ 1000) :
    ED (tOp (rAddX X.K) (tOp (rAddX X.K) (tVar 11) (tLc (iRng1 (tCons (tOp rMulX (tC (.int 5)) (tCB rIntX (tCons (tOp rGtI (tVar 6) (tC (.int 0))) tNil))) tNil)) (gName 13) tYes (tTup (tCons (tVar 6) (tCons (tVar 13) (tCons (tC (.str "-")) tNil)))) [13])) (tLc (iRng2 (tCons (tC (.int 1)) (tCons (tC (.int 5)) tNil))) (gName 13) tYes (tTup (tCons (tVar 6) (tCons (tVar 13) (tCons (tC (.str "|")) tNil)))) [13]))
      [none, none, none, none, none, none, some (.int (n : Nat)), none, none, none, none, some (.list (ds.map edgeD)), none, none] (.list ((ds ++ leftRow 5 n).map edgeD)) := by
  have e1 : ((5 : Int) * (if (0 : Int) < (n : Int) then 1 else 0)).toNat ≤ 5 := by split <;> omega
  have e1' : (5 : Int) * (if (0 : Int) < (n : Int) then 1 else 0) ≤ 5 := by split <;> omega
  have e1'' : 0 ≤ (5 : Int) * (if (0 : Int) < (n : Int) then 1 else 0) := by split <;> omega
  have hc1 : ED (tLc (iRng1 (tCons (tOp rMulX (tC (.int 5)) (tCB rIntX (tCons (tOp rGtI (tVar 6) (tC (.int 0))) tNil))) tNil)) (gName 13) tYes (tTup (tCons (tVar 6) (tCons (tVar 13) (tCons (tC (.str "-")) tNil)))) [13])
      [none, none, none, none, none, none, some (.int (n : Nat)), none, none, none, none, some (.list (ds.map edgeD)), none, none]
      (.list (((List.range ((5 : Int) * (if (0 : Int) < (n : Int) then 1 else 0)).toNat).map fun k => ((n : Int), ((k : Nat) : Int), Sg.h)).map edgeD)) := by
    have hb : ED (tOp rMulX (tC (.int 5)) (tCB rIntX (tCons (tOp rGtI (tVar 6) (tC (.int 0))) tNil))) [none, none, none, none, none, none, some (.int (n : Nat)), none, none, none, none, some (.list (ds.map edgeD)), none, none] (.int ((5 : Int) * (if (0 : Int) < (n : Int) then 1 else 0))) := by
      refine ED.is (ed_op ed_int (ed_cb (ea_cons (ed_op (ed_var rfl) ed_int r2_gt) ea_nil) rc_intB) (r2_mulI (i := 5) ?_)) ?_
      · exact .inl (by omega)
      · simp
    have h := ed_lcM (vs := [13]) (te := tTup (tCons (tVar 6) (tCons (tVar 13) (tCons (tC (.str "-")) tNil)))) (g := gName 13) (List.range ((5 : Int) * (if (0 : Int) < (n : Int) then 1 else 0)).toNat) (fun k => PyData.int (k : Nat)) (fun k => edgeD ((n : Int), ((k : Nat) : Int), Sg.h)) (ie_rng1 (ea_cons hb ea_nil) (by omega) (by omega)) (by rw [List.length_range]; omega)
      (fun k _ => ⟨_, gd_name (by simp), ED.is (ed_tup (ea_cons (ed_var rfl) (ea_cons (ed_var rfl) (ea_cons ed_str ea_nil))) (by simp)) (by rw [lit_h]; rfl)⟩)
    rw [List.map_map]
    exact h
  have hc2 : ED (tLc (iRng2 (tCons (tC (.int 1)) (tCons (tC (.int 5)) tNil))) (gName 13) tYes (tTup (tCons (tVar 6) (tCons (tVar 13) (tCons (tC (.str "|")) tNil)))) [13])
      [none, none, none, none, none, none, some (.int (n : Nat)), none, none, none, none, some (.list (ds.map edgeD)), none, none]
      (.list (((List.range ((5 : Int) - 1).toNat).map fun k => ((n : Int), 1 + ((k : Nat) : Int), Sg.v)).map edgeD)) := by
    have h := ed_lcM (vs := [13]) (te := tTup (tCons (tVar 6) (tCons (tVar 13) (tCons (tC (.str "|")) tNil)))) (g := gName 13) (List.range ((5 : Int) - 1).toNat) (fun k => PyData.int (1 + (k : Nat))) (fun k => edgeD ((n : Int), 1 + ((k : Nat) : Int), Sg.v)) (ie_rng2 (ρ := [none, none, none, none, none, none, some (.int (n : Nat)), none, none, none, none, some (.list (ds.map edgeD)), none, none]) (ta := tCons (tC (.int 1)) (tCons (tC (.int 5)) tNil)) (m := 1) (n := 5) (ea_cons ed_int (ea_cons ed_int ea_nil)) (by omega) (by omega) (by omega) (by omega)) (by rw [List.length_range]; omega)
      (fun k _ => ⟨_, gd_name (by simp), ED.is (ed_tup (ea_cons (ed_var rfl) (ea_cons (ed_var rfl) (ea_cons ed_str ea_nil))) (by simp)) (by rw [lit_v]; rfl)⟩)
    rw [List.map_map]
    exact h
  refine ED.is (ed_op (ed_op (ed_var rfl) hc1 (r2_catL (by simp only [List.length_map, List.length_range]; omega))) hc2 (r2_catL (by simp only [List.length_append, List.length_map, List.length_range]; omega))) ?_
  rw [← List.map_append, ← List.map_append, List.append_assoc]
  rfl
theorem law_tail01 (xh : XcOk X.K mg CH CHx cA 4) (x : LS X σ H) (q : ∀ H', D.rt (.bl true) H') :
    (tSeq (tAsg (tLst tNil) (gName 11)) (tSeq (tFor (iRng1 (tCons (tC (.int 5)) tNil)) (gName 6) (tAsg (tOp (rAddX X.K) (tOp (rAddX X.K) (tVar 11) (tLc (iRng1 (tCons (tOp rMulX (tC (.int 5)) (tCB rIntX (tCons (tOp rGtI (tVar 6) (tC (.int 0))) tNil))) tNil)) (gName 13) tYes (tTup (tCons (tVar 6) (tCons (tVar 13) (tCons (tC (.str "-")) tNil)))) [13])) (tLc (iRng2 (tCons (tC (.int 1)) (tCons (tC (.int 5)) tNil))) (gName 13) tYes (tTup (tCons (tVar 6) (tCons (tVar 13) (tCons (tC (.str "|")) tNil)))) [13])) (gName 11))) (tSeq (tAsg (tLst (tCons (tTup (tCons (tC (.int 1)) (tCons (tC (.int 1)) (tCons (tC (.str "n")) tNil)))) (tCons (tTup (tCons (tC (.int 1)) (tCons (tC (.int 2)) (tCons (tC (.str "n")) tNil)))) (tCons (tTup (tCons (tC (.int 1)) (tCons (tC (.int 3)) (tCons (tC (.str "n")) tNil)))) (tCons (tTup (tCons (tC (.int 1)) (tCons (tC (.int 4)) (tCons (tC (.str "n")) tNil)))) (tCons (tTup (tCons (tC (.int 4)) (tCons (tC (.int 1)) (tCons (tC (.str "s")) tNil)))) (tCons (tTup (tCons (tC (.int 4)) (tCons (tC (.int 2)) (tCons (tC (.str "s")) tNil)))) (tCons (tTup (tCons (tC (.int 4)) (tCons (tC (.int 3)) (tCons (tC (.str "s")) tNil)))) tNil)))))))) (gName 9)) (tSeq (tAsg (tLst (tCons (lwB X mg CHx cA CH (tCons (tTup (tCons (tC (.int 5)) (tCons (tC (.int 5)) (tCons (tCB (rTupX X.K) (tCons (tSl (rSlX X.K) (tVar 11) tNoPart (tPart (tC (.int 25)))) tNil)) (tCons (tC (.int 5)) tNil))))) (tCons (tC (.int 5)) tNil))) tNil)) (gName 7)) (tSeq (tDrop (tBM X.K "list" rAppend (tVar 7) (tCons (lwG X mg CHx cA CH CC (tCons (tTup (tCons (tC (.int 5)) (tCons (tC (.int 5)) (tCons (tCB (rTupX X.K) (tCons (tSl (rSlX X.K) (tVar 11) tNoPart (tPart (tC (.int 24)))) tNil)) (tCons (tTup tNil) tNil))))) (tCons (tTup (tCons (tTup (tCons (tC (.int 0)) (tCons (tC (.int 0)) tNil))) tNil)) tNil))) tNil))) (tSeq (tDrop (tBM X.K "list" rAppend (tVar 7) (tCons (lwB X mg CHx cA CH (tCons (tTup (tCons (tC (.int 5)) (tCons (tC (.int 5)) (tCons (tTup tNil) (tCons (tCB (rTupX X.K) (tCons (tVar 9) tNil)) tNil))))) (tCons (tC (.int 5)) tNil))) tNil))) (tSeq (tDrop (tBM X.K "list" rAppend (tVar 7) (tCons (lwG X mg CHx cA CH CC (tCons (tTup (tCons (tC (.int 5)) (tCons (tC (.int 5)) (tCons (tTup tNil) (tCons (tCB (rTupX X.K) (tCons (tSl (rSlX X.K) (tVar 9) tNoPart (tPart (tC (.int 6)))) tNil)) tNil))))) (tCons (tTup (tCons (tTup (tCons (tC (.int 0)) (tCons (tC (.int 0)) tNil))) tNil)) tNil))) tNil))) (tRet (tOp (rEqD X.K) (tVar 7) (tLst (tCons (tTup (tCons (tC (.str "hall")) (tCons (tC (.int 2)) (tCons (tC (.int 24)) tNil)))) (tCons (tC .non) (tCons (tTup (tCons (tC (.str "hall")) (tCons (tC (.int 3)) (tCons (tC (.int 6)) tNil)))) (tCons (tC .non) tNil)))))))))))))) D σ H := by
  obtain ⟨b0, B, x⟩ := x
  refine go_seq ?_
  refine lt_set (d := .list []) x (ed_lst ea_nil (by simp)) (by decide) fun σ B H x => ?_
  dsimp only
  refine go_seq ?_
  refine lt_rng (m := 5) (by decide) (by decide) (fun n σ H => ∃ b0 B, LT X b0 σ B H [none, none, none, none, none, none, none, none, none, none, none, some (.list ((leftOf 5 n).map edgeD)), none, none]) ⟨b0, B, x⟩ ?_ ?_
  · rintro n hn σ H ⟨b0, B, x⟩ N k
    have x : LT X b0 (σ.set 6 (some (.int (n : Nat)))) B H [none, none, none, none, none, none, some (.int (n : Nat)), none, none, none, none, some (.list ((leftOf 5 n).map edgeD)), none, none] := x.set (.int _) (by decide)
    have hl := len_left (wide := 5) (by decide) n
    refine lt_set x (ed_row5 hn (ds := leftOf 5 n) (by omega)) (by decide) fun σ B H x => k σ H ⟨b0, B, ?_⟩
    exact x.less ((Rle.refl [none, none, none, none, none, none, none, none, none, none, none, some (.list ((leftOf 5 (n + 1)).map edgeD)), none, none]).set (i := 6) (o := some (.int (n : Nat))) rfl)
  rintro σ H ⟨b0, B, x⟩
  dsimp only
  refine go_seq ?_
  refine lt_set (d := .list (doors7.map edgeD)) x (ED.is (by walk_at "ed") ?_) (by decide) fun σ B H x => ?_
  · rw [lit_n, lit_s]
    rfl
  have x : LT X b0 σ B H [none, none, none, none, none, none, none, none, none, some (.list (doors7.map edgeD)), none, some (.list ((leftOf 5 5).map edgeD)), none, none] := x
  dsimp only
  refine go_seq ?_
  have t25 : ED (tCB (rTupX X.K) (tCons (tSl (rSlX X.K) (tVar 11) tNoPart (tPart (tC (.int 25)))) tNil)) [none, none, none, none, none, none, none, none, none, some (.list (doors7.map edgeD)), none, some (.list ((leftOf 5 5).map edgeD)), none, none] (.tuple (((leftOf 5 5).take 25).map edgeD)) :=
    ed_cb (ea_cons (d := .list (((leftOf 5 5).take 25).map edgeD)) (ED.is (ed_slL (ed_var (d := .list ((leftOf 5 5).map edgeD)) rfl) eo_none (eo_some (i := ((25 : Nat) : Int)) ed_int)) (by rw [cut_take _ _ (by rw [List.length_map, left_len]; decide), List.map_take])) ea_nil) rc_tupL
  have t24 : ED (tCB (rTupX X.K) (tCons (tSl (rSlX X.K) (tVar 11) tNoPart (tPart (tC (.int 24)))) tNil)) [none, none, none, none, none, none, none, none, none, some (.list (doors7.map edgeD)), none, some (.list ((leftOf 5 5).map edgeD)), none, none] (.tuple (((leftOf 5 5).take 24).map edgeD)) :=
    ed_cb (ea_cons (d := .list (((leftOf 5 5).take 24).map edgeD)) (ED.is (ed_slL (ed_var (d := .list ((leftOf 5 5).map edgeD)) rfl) eo_none (eo_some (i := ((24 : Nat) : Int)) ed_int)) (by rw [cut_take _ _ (by rw [List.length_map, left_len]; decide), List.map_take])) ea_nil) rc_tupL
  have t7 : ED (tCB (rTupX X.K) (tCons (tVar 9) tNil)) [none, none, none, none, none, none, none, none, none, some (.list (doors7.map edgeD)), none, some (.list ((leftOf 5 5).map edgeD)), none, none] (.tuple (doors7.map edgeD)) := ed_cb (ea_cons (ed_var rfl) ea_nil) rc_tupL
  have t6 : ED (tCB (rTupX X.K) (tCons (tSl (rSlX X.K) (tVar 9) tNoPart (tPart (tC (.int 6)))) tNil)) [none, none, none, none, none, none, none, none, none, some (.list (doors7.map edgeD)), none, some (.list ((leftOf 5 5).map edgeD)), none, none] (.tuple ((doors7.take 6).map edgeD)) :=
    ed_cb (ea_cons (d := .list ((doors7.take 6).map edgeD)) (ED.is (ed_slL (ed_var (d := .list (doors7.map edgeD)) rfl) eo_none (eo_some (i := ((6 : Nat) : Int)) ed_int)) (by rw [cut_take _ _ (by decide), List.map_take])) ea_nil) rc_tupL
  refine wl_new (z := toldH 2 24) x (by decide) (by rw [x.ev.len]; decide) rfl (fun Q q => lw_bad (e := .int 5) xh x bad_24 (ea_cons (ed_tup (ea_cons ed_int (ea_cons ed_int (ea_cons t25 (ea_cons ed_int ea_nil)))) (by simp)) (ea_cons ed_int ea_nil)) fun v B' H' x _ _ _ dv => q v B' H' x dv) fun b0 p σ B H x => ?_
  dsimp only
  refine go_seq ?_
  refine wl_app (z := .none) x (by simp) (fun Q q => lw_good x.x hW_ok (cells00 hW_ok) (ea_cons (ed_tup (ea_cons ed_int (ea_cons ed_int (ea_cons t24 (ea_cons (ed_tup ea_nil (Nat.zero_le _)) ea_nil)))) (by simp)) (ea_cons (ed_tup (ea_cons (ed_tup (ea_cons ed_int (ea_cons ed_int ea_nil)) (by simp)) ea_nil) (by simp)) ea_nil)) q) fun B H x => ?_
  dsimp only
  refine go_seq ?_
  refine wl_app (z := toldH 3 6) x (by simp) (fun Q q => lw_bad (e := .int 5) xh x.x bad_6 (ea_cons (ed_tup (ea_cons ed_int (ea_cons ed_int (ea_cons (ed_tup ea_nil (by simp)) (ea_cons t7 ea_nil)))) (by simp)) (ea_cons ed_int ea_nil)) q) fun B H x => ?_
  dsimp only
  refine go_seq ?_
  refine wl_app (z := .none) x (by simp) (fun Q q => lw_good x.x hDr_ok (cells00 hDr_ok) (ea_cons (ed_tup (ea_cons ed_int (ea_cons ed_int (ea_cons (ed_tup ea_nil (Nat.zero_le _)) (ea_cons t6 ea_nil)))) (by simp)) (ea_cons (ed_tup (ea_cons (ed_tup (ea_cons ed_int (ea_cons ed_int ea_nil)) (by simp)) ea_nil) (by simp)) ea_nil)) q) fun B H x => ?_
  obtain ⟨B', y⟩ := x.data
  dsimp only
  have hL : ED (tLst (tCons (tTup (tCons (tC (.str "hall")) (tCons (tC (.int 2)) (tCons (tC (.int 24)) tNil)))) (tCons (tC .non) (tCons (tTup (tCons (tC (.str "hall")) (tCons (tC (.int 3)) (tCons (tC (.int 6)) tNil)))) (tCons (tC .non) tNil))))) ([none, none, none, none, none, none, none, none, none, some (.list (doors7.map edgeD)), none, some (.list ((leftOf 5 5).map edgeD)), none, none].set 7 (some (.list [toldH 2 24, .none, toldH 3 6, .none]))) (.list [toldH 2 24, .none, toldH 3 6, .none]) :=
    ed_lst (ea_cons (ed_tup (ea_cons ed_str (ea_cons ed_int (ea_cons ed_int ea_nil))) (by simp)) (ea_cons ed_non (ea_cons (ed_tup (ea_cons ed_str (ea_cons ed_int (ea_cons ed_int ea_nil))) (by simp)) (ea_cons ed_non ea_nil)))) (by simp)
  have sL : SeqAt.shaped (.list [toldH 2 24, .none, toldH 3 6, .none]) = true := shaped_of (by simpa [toldH, PyData.canLay0, PyData.canLayAll0] using ok_hallS) (by simp [toldH, PyData.depth, PyData.depthAll])
  have eL : PyData.eqv (.list [toldH 2 24, .none, toldH 3 6, .none]) (.list [toldH 2 24, .none, toldH 3 6, .none]) = true := by simp [toldH, PyData.eqv, PyData.eqvAll]
  have hE : ED (tOp (rEqD X.K) (tVar 7) (tLst (tCons (tTup (tCons (tC (.str "hall")) (tCons (tC (.int 2)) (tCons (tC (.int 24)) tNil)))) (tCons (tC .non) (tCons (tTup (tCons (tC (.str "hall")) (tCons (tC (.int 3)) (tCons (tC (.int 6)) tNil)))) (tCons (tC .non) tNil)))))) ([none, none, none, none, none, none, none, none, none, some (.list (doors7.map edgeD)), none, some (.list ((leftOf 5 5).map edgeD)), none, none].set 7 (some (.list [toldH 2 24, .none, toldH 3 6, .none]))) (.bool true) :=
    ED.is (ed_op (ed_var rfl) hL (r2_eq sL sL)) (by rw [eL])
  refine hE σ B' H y.t y.ev D.rt fun v B2 H2 g dv => ?_
  cases dv
  exact q H2
end
/-! ### the law -/
def sp_law (K : PySem.W.Frag) (T : List (Addr × Str)) : Sp := fun vs H Q _ => ∃ (sc : Addr) (ns : List Int), vs = [.ref sc] ∧ SqL K H sc (ns.map V.int) ∧ LamX.Tabs T H ∧ ∀ H', Q (.bl true) H'
abbrev X0 (K : PySem.W.Frag) (PT PW : Addr) : LX := ⟨K, PT, PW, 0, 0, []⟩
theorem rp_law01 {K : PySem.W.Frag} {mg : Str → Option Value} {PT PW CH CC CHx : Addr} {cA : Str → Addr} {Y : Cx} {vs : List V} {H : Hp} {Q : VK} {E : XK} (xh : XcOk K mg CH CHx cA 4) (KR : ∀ z, ∀ W ∈ wks z, WkRun Y.prog Y.w Y.K Y.mg Y.base CH W) (hsp : sp_law K (lawT PT PW) vs H Q E) :
    rd_law01 K (lwG (X0 K PT PW) mg CHx cA CH CC (tCons (tVar 10) (tCons (tTup (tCons (tTup (tCons (tC (.int 0)) (tCons (tC (.int 0)) tNil))) tNil)) tNil))) (Lmp.tLamE Y 10 (nmL "_law_works") 12 (TTX K mg CHx cA)) (lwB (X0 K PT PW) mg CHx cA CH (tCons (tVar 8) (tCons (tC (.int 5)) tNil))) (lwB (X0 K PT PW) mg CHx cA CH (tCons (tTup (tCons (tC (.int 5)) (tCons (tC (.int 5)) (tCons (tCB (rTupX K) (tCons (tSl (rSlX K) (tVar 11) tNoPart (tPart (tC (.int 25)))) tNil)) (tCons (tC (.int 5)) tNil))))) (tCons (tC (.int 5)) tNil))) (lwG (X0 K PT PW) mg CHx cA CH CC (tCons (tTup (tCons (tC (.int 5)) (tCons (tC (.int 5)) (tCons (tCB (rTupX K) (tCons (tSl (rSlX K) (tVar 11) tNoPart (tPart (tC (.int 24)))) tNil)) (tCons (tTup tNil) tNil))))) (tCons (tTup (tCons (tTup (tCons (tC (.int 0)) (tCons (tC (.int 0)) tNil))) tNil)) tNil))) (lwB (X0 K PT PW) mg CHx cA CH (tCons (tTup (tCons (tC (.int 5)) (tCons (tC (.int 5)) (tCons (tTup tNil) (tCons (tCB (rTupX K) (tCons (tVar 9) tNil)) tNil))))) (tCons (tC (.int 5)) tNil))) (lwG (X0 K PT PW) mg CHx cA CH CC (tCons (tTup (tCons (tC (.int 5)) (tCons (tC (.int 5)) (tCons (tTup tNil) (tCons (tCB (rTupX K) (tCons (tSl (rSlX K) (tVar 9) tNoPart (tPart (tC (.int 6)))) tNil)) tNil))))) (tCons (tTup (tCons (tTup (tCons (tC (.int 0)) (tCons (tC (.int 0)) tNil))) tNil)) tNil))) (spW K P_hall R_hall) (spW K P_odd R_odd) (spWk K (lawT PT PW)) { nx := fun _ H' => Q .non H', rt := Q } (L2.start ["_law_script", "_law_row", "_law_turn", "_law_part", "_law_number", "_law_pairs", "_law_r", "_law_words", "_law_bad", "_law_doors", "_law_hall_here", "_law_some", "_law_work", "_law_c"] vs) H := by
  obtain ⟨sc, ns, rfl, hs, tb, q⟩ := hsp
  have h0 : (L2.start ["_law_script", "_law_row", "_law_turn", "_law_part", "_law_number", "_law_pairs", "_law_r", "_law_words", "_law_bad", "_law_doors", "_law_hall_here", "_law_some", "_law_work", "_law_c"] [V.ref sc])[0]? = some (some (.ref sc)) := rfl
  have hlen : (L2.start ["_law_script", "_law_row", "_law_turn", "_law_part", "_law_number", "_law_pairs", "_law_r", "_law_words", "_law_bad", "_law_doors", "_law_hall_here", "_law_some", "_law_work", "_law_c"] [V.ref sc]).length = 14 := rfl
  generalize L2.start ["_law_script", "_law_row", "_law_turn", "_law_part", "_law_number", "_law_pairs", "_law_r", "_law_words", "_law_bad", "_law_doors", "_law_hall_here", "_law_some", "_law_work", "_law_c"] [V.ref sc] = σ at h0 hlen ⊢
  unfold rd_law01
  refine go_seq ?_
  refine ⟨.ref sc, h0, ⟨by show 4 ≤ sizeLine; decide, fun l hl => ?_⟩⟩
  have hnB : noTbl H l = none := noTbl_none hl
  have scr : SqL K (noTbl H) sc (ns.map V.int) := by
    rcases hs with (e | ⟨u, e⟩) | e
    · exact .inl (.inl (noTbl_of e (fun _ z => nomatch z)))
    · exact .inl (.inr ⟨u, noTbl_of e (fun _ z => nomatch z)⟩)
    · exact .inr e
  let c : Cfg := ⟨K, 1, l, sc, ns, noTbl H, upd H l (.lst [.ref sc, .int 0, .int 0, .int 0])⟩
  have tb0 : LamX.Tabs (lawT PT PW) (upd H l (.lst [.ref sc, .int 0, .int 0, .int 0])) := tb.ext fun b o e => Ex.new hl _ _ e
  have o : Iv c (fun _ => 0) (σ.set 1 (some (.ref l))) (noTbl H) (upd H l (.lst [.ref sc, .int 0, .int 0, .int 0])) r14 [] := by
    refine ⟨⟨(noTbl_ex H).mut hnB, ⟨0, 0, 0, upd_same, by omega, by omega, by omega⟩, scr, hnB⟩, ⟨Ex.refl _, fun _ _ _ e => e, fun _ e _ => e⟩, ⟨by rw [List.length_set, hlen]; rfl, fun i z e => ?_⟩, List.getElem?_set_self (by rw [hlen]; decide), (fun p hp => nomatch hp), (fun p hp => nomatch hp)⟩
    have e : (List.replicate 14 (none : Option PyData))[i]? = some (some z) := e
    rw [List.getElem?_replicate] at e
    split at e
    · cases e
    · cases e
  dsimp only
  refine go_seq ?_
  show tFor _ (gName 2) _ _ (σ.set 1 (some (.ref l))) _
  generalize σ.set 1 (some (.ref l)) = σ at o ⊢
  have x : LS ⟨K, PT, PW, l, sc, ns⟩ σ (upd H l (.lst [.ref sc, .int 0, .int 0, .int 0])) := ⟨noTbl H, noTbl H, noT_noTbl H, Ex.refl _, c, ⟨rfl, rfl, rfl, rfl, rfl⟩, ⟨o, tb0, 0, 0, 0, upd_same⟩⟩
  generalize upd H l (.lst [.ref sc, .int 0, .int 0, .int 0]) = H1 at x
  refine lt_rng (m := 5) (by decide) (by decide) (fun n σ H => LS ⟨K, PT, PW, l, sc, ns⟩ σ H) x (fun n hn σ H x N k => ?_) fun σ H x => ?_
  · obtain ⟨b0, B, x⟩ := x
    exact law_turn01 (X := ⟨K, PT, PW, l, sc, ns⟩) xh KR ⟨b0, B, (x.set (i := 2) (.int _) (by decide)).less ((Rle.refl r14).set (i := 2) rfl)⟩ fun σ H x => k σ H x
  · exact law_tail01 (X := ⟨K, PT, PW, l, sc, ns⟩) xh x q
end Pd
/-! D01 -/
set_option Elab.async false
set_option linter.all false
set_option maxRecDepth 100000
set_option maxHeartbeats 4000000
/-! each def keeps its promise -/
namespace Pd
variable [Pd.Wd]
open PySem PySem.Spec PyProof.Rows L2 LamX
structure Ats (K : PySem.W.Frag) (mg : Str → Option Value) : Prop where
  is_number : At K mg "is_number" s_is_number p_is_number
  is_side : At K mg "is_side" s_is_side p_is_side
  is_cell : At K mg "is_cell" s_is_cell p_is_cell
  is_edge : At K mg "is_edge" s_is_edge p_is_edge
  edge_from : At K mg "edge_from" s_edge_from p_edge_from
  edge_crossed : At K mg "edge_crossed" s_edge_crossed p_edge_crossed
  next_cell : At K mg "next_cell" s_next_cell p_next_cell
  door_edge : At K mg "door_edge" s_door_edge p_door_edge
  check_edges : At K mg "check_edges" s_check_edges p_check_edges
  check_hall : At K mg "check_hall" s_check_hall p_check_hall
  check_cells : At K mg "check_cells" s_check_cells p_check_cells
  check_start : At K mg "check_start" s_check_start p_check_start
  first_standing : At K mg "first_standing" s_first_standing p_first_standing
  door_edges : At K mg "door_edges" s_door_edges p_door_edges
  swung_ways : At K mg "swung_ways" s_swung_ways p_swung_ways
  step_done : At K mg "step_done" s_step_done p_step_done
  moves_from : At K mg "moves_from" s_moves_from p_moves_from
  may : At K mg "may" s_may p_may
  best_way : At K mg "best_way" s_best_way p_best_way
  walk : At K mg "walk" s_walk p_walk
  paper : At K mg "paper" s_paper p_paper
  shows : At K mg "shows" s_shows p_shows
  turned : At K mg "turned" s_turned p_turned
  mirrored : At K mg "mirrored" s_mirrored p_mirrored
  shortest : At K mg "shortest" s_shortest p_shortest
  gentlest : At K mg "gentlest" s_gentlest p_gentlest
  reached : At K mg "reached" s_reached p_reached
  far : At K mg "far" s_far p_far
  still : At K mg "still" s_still p_still
  oneway : At K mg "oneway" s_oneway p_oneway
  lost : At K mg "lost" s_lost p_lost
  written : At K mg "written" s_written p_written
  L_taken : At K mg "_law_taken" s_L_taken p_L_taken
  L_pair : At K mg "_law_pair" s_L_pair p_L_pair
  L_shut : At K mg "_law_shut" s_L_shut p_L_shut
  L_within : At K mg "_law_within" s_L_within p_L_within
  L_hall : At K mg "_law_hall" s_L_hall p_L_hall
  L_odd : At K mg "_law_odd" s_L_odd p_L_odd
  law : At K mg "law" s_law p_law
  lifted : AtL K mg s_lifted p_lifted
def IAt (K : PySem.W.Frag) (C : Addr) (q : Str) (st : Stmt) (ps : List Str) : Prop := ∃ f fd, Mk K C f ∧ FunD K "__init__" q (defArgs st) (defBody st) (defScope st) [] [] f fd ∧ Binds K fd ps []
theorem init_keepsX {P : Program} {w : World} {K : PySem.W.Frag} {mg : Str → Option Value} {base : Heap} {C : Addr} {q : Str} {st : Stmt} {ps N : List Str} {k : Nat} {sp : Sp} (M : IAt K C q st ps) (S : FnScope N ps (defScope st)) (len : ∀ vs H Q E, sp vs H Q E → vs.length = ps.length)
    (hbody : ∀ (f : Addr) (cdv : Value) (A : Around) (outer : List Env) (s : Shared) (H : Hp) (vs : List V) (Q : VK) (E : XK), Room k (A.deeper (envOfC q (defScope st) s.heap.objs.size f cdv)) → sp vs H Q E →
      ∃ t, PSs (cxOf (L2.CX P w) P w K mg base N q (defScope st) f cdv A outer s H E) (defBody st) t ∧ t { nx := fun _ H' => Q .non H', rt := Q } (L2.start N vs) H) : MakeS P w K mg base (L2.CX P w) (k + 1) C ps sp := by
  obtain ⟨f, fd, h1, h2, h3⟩ := M
  exact ⟨f, fd, h1, h3, h2.ok S len fun cdv A outer s H vs Q E hr h => hbody f cdv A outer s H vs Q E hr h⟩
theorem G_is_number {P : Program} {w : World} {K : PySem.W.Frag} {mg : Str → Option Value} {base : Heap} {aWAYS aWAYS_TURNED aWAYS_MIRRORED : Addr} (T : Txt K mg w aWAYS aWAYS_TURNED aWAYS_MIRRORED) (F : Ats K mg) : DefS P w K mg base CX0 1 "is_number" p_is_number (spR R_is_number) :=
  def_okD F.is_number sc_is_number (fun ds d h => by cases h; rfl) fun f cdv A outer s H E hr => ⟨_, bd_is_number T hr, fun ds d h => rp_is_number h⟩
theorem G_is_side {P : Program} {w : World} {K : PySem.W.Frag} {mg : Str → Option Value} {base : Heap} {aWAYS aWAYS_TURNED aWAYS_MIRRORED : Addr} (T : Txt K mg w aWAYS aWAYS_TURNED aWAYS_MIRRORED) (F : Ats K mg) : DefS P w K mg base CX0 2 "is_side" p_is_side (spR R_is_side) :=
  def_okD F.is_side sc_is_side (fun ds d h => by cases h; rfl) fun f cdv A outer s H E hr => ⟨_, bd_is_side T hr (G_is_number T F), fun ds d h => rp_is_side h⟩
theorem G_is_cell {P : Program} {w : World} {K : PySem.W.Frag} {mg : Str → Option Value} {base : Heap} {aWAYS aWAYS_TURNED aWAYS_MIRRORED : Addr} (T : Txt K mg w aWAYS aWAYS_TURNED aWAYS_MIRRORED) (F : Ats K mg) : DefS P w K mg base CX0 2 "is_cell" p_is_cell (spR R_is_cell) :=
  def_okD F.is_cell sc_is_cell (fun ds d h => by cases h; rfl) fun f cdv A outer s H E hr => ⟨_, bd_is_cell T hr (G_is_number T F), fun ds d h => rp_is_cell h⟩
theorem G_is_edge {P : Program} {w : World} {K : PySem.W.Frag} {mg : Str → Option Value} {base : Heap} {aWAYS aWAYS_TURNED aWAYS_MIRRORED : Addr} (T : Txt K mg w aWAYS aWAYS_TURNED aWAYS_MIRRORED) (F : Ats K mg) : DefS P w K mg base CX0 3 "is_edge" p_is_edge (spR R_is_edge) :=
  def_okD F.is_edge sc_is_edge (fun ds d h => by cases h; rfl) fun f cdv A outer s H E hr => ⟨_, bd_is_edge T hr (G_is_cell T F), fun ds d h => rp_is_edge h⟩
theorem G_edge_from {P : Program} {w : World} {K : PySem.W.Frag} {mg : Str → Option Value} {base : Heap} {aWAYS aWAYS_TURNED aWAYS_MIRRORED : Addr} (T : Txt K mg w aWAYS aWAYS_TURNED aWAYS_MIRRORED) (F : Ats K mg) : DefS P w K mg base CX0 1 "edge_from" p_edge_from (spR R_edge_from) :=
  def_okD F.edge_from sc_edge_from (fun ds d h => by cases h; rfl) fun f cdv A outer s H E hr => ⟨_, bd_edge_from T hr, fun ds d h => rp_edge_from h⟩
theorem G_edge_crossed {P : Program} {w : World} {K : PySem.W.Frag} {mg : Str → Option Value} {base : Heap} {aWAYS aWAYS_TURNED aWAYS_MIRRORED : Addr} (T : Txt K mg w aWAYS aWAYS_TURNED aWAYS_MIRRORED) (F : Ats K mg) : DefS P w K mg base CX0 1 "edge_crossed" p_edge_crossed (spR R_edge_crossed) :=
  def_okD F.edge_crossed sc_edge_crossed (fun ds d h => by cases h; rfl) fun f cdv A outer s H E hr => ⟨_, bd_edge_crossed T hr, fun ds d h => rp_edge_crossed h⟩
theorem G_next_cell {P : Program} {w : World} {K : PySem.W.Frag} {mg : Str → Option Value} {base : Heap} {aWAYS aWAYS_TURNED aWAYS_MIRRORED : Addr} (T : Txt K mg w aWAYS aWAYS_TURNED aWAYS_MIRRORED) (F : Ats K mg) : DefS P w K mg base CX0 1 "next_cell" p_next_cell (spR R_next_cell) :=
  def_okD F.next_cell sc_next_cell (fun ds d h => by cases h; rfl) fun f cdv A outer s H E hr => ⟨_, bd_next_cell T hr, fun ds d h => rp_next_cell h⟩
theorem G_door_edge {P : Program} {w : World} {K : PySem.W.Frag} {mg : Str → Option Value} {base : Heap} {aWAYS aWAYS_TURNED aWAYS_MIRRORED : Addr} (T : Txt K mg w aWAYS aWAYS_TURNED aWAYS_MIRRORED) (F : Ats K mg) : DefS P w K mg base CX0 2 "door_edge" p_door_edge (spR R_door_edge) :=
  def_okD F.door_edge sc_door_edge (fun ds d h => by cases h; rfl) fun f cdv A outer s H E hr => ⟨_, bd_door_edge T hr (G_edge_from T F) (G_is_number T F), fun ds d h => rp_door_edge T.s_WAYS h⟩
theorem G_first_standing {P : Program} {w : World} {K : PySem.W.Frag} {mg : Str → Option Value} {base : Heap} {aWAYS aWAYS_TURNED aWAYS_MIRRORED : Addr} (T : Txt K mg w aWAYS aWAYS_TURNED aWAYS_MIRRORED) (F : Ats K mg) : DefS P w K mg base CX0 1 "first_standing" p_first_standing (spR R_first_standing) :=
  def_okD F.first_standing sc_first_standing (fun ds d h => by cases h; rfl) fun f cdv A outer s H E hr => ⟨_, bd_first_standing T hr, fun ds d h => rp_first_standing h⟩
theorem G_door_edges {P : Program} {w : World} {K : PySem.W.Frag} {mg : Str → Option Value} {base : Heap} {aWAYS aWAYS_TURNED aWAYS_MIRRORED : Addr} (T : Txt K mg w aWAYS aWAYS_TURNED aWAYS_MIRRORED) (F : Ats K mg) : DefS P w K mg base CX0 2 "door_edges" p_door_edges (spR R_door_edges) :=
  def_okD F.door_edges sc_door_edges (fun ds d h => by cases h; rfl) fun f cdv A outer s H E hr => ⟨_, bd_door_edges T hr (G_edge_from T F), fun ds d h => rp_door_edges h⟩
theorem G_swung_ways {P : Program} {w : World} {K : PySem.W.Frag} {mg : Str → Option Value} {base : Heap} {aWAYS aWAYS_TURNED aWAYS_MIRRORED : Addr} (T : Txt K mg w aWAYS aWAYS_TURNED aWAYS_MIRRORED) (F : Ats K mg) : DefS P w K mg base CX0 4 "swung_ways" p_swung_ways (spR R_swung_ways) :=
  def_okD F.swung_ways sc_swung_ways (fun ds d h => by cases h; rfl) fun f cdv A outer s H E hr => ⟨_, bd_swung_ways T hr (G_door_edges T F) (G_edge_from T F) (G_is_edge T F), fun ds d h => rp_swung_ways h⟩
theorem G_step_done {P : Program} {w : World} {K : PySem.W.Frag} {mg : Str → Option Value} {base : Heap} {aWAYS aWAYS_TURNED aWAYS_MIRRORED : Addr} (T : Txt K mg w aWAYS aWAYS_TURNED aWAYS_MIRRORED) (F : Ats K mg) : DefS P w K mg base CX0 5 "step_done" p_step_done (spR R_step_done) :=
  def_okD F.step_done sc_step_done (fun ds d h => by cases h; rfl) fun f cdv A outer s H E hr => ⟨_, bd_step_done T hr (G_door_edges T F) (G_edge_crossed T F) (G_is_cell T F) (G_next_cell T F) (G_swung_ways T F), fun ds d h => rp_step_done h⟩
theorem G_moves_from {P : Program} {w : World} {K : PySem.W.Frag} {mg : Str → Option Value} {base : Heap} {aWAYS aWAYS_TURNED aWAYS_MIRRORED : Addr} (T : Txt K mg w aWAYS aWAYS_TURNED aWAYS_MIRRORED) (F : Ats K mg) : DefS P w K mg base CX0 6 "moves_from" p_moves_from (spR R_moves) :=
  def_okD F.moves_from sc_moves_from (fun ds d h => by cases h; rfl) fun f cdv A outer s H E hr => ⟨_, bd_moves_from T hr (G_step_done T F), fun ds d h => rp_moves_from T.s_WAYS h⟩
theorem G_L_taken {P : Program} {w : World} {K : PySem.W.Frag} {mg : Str → Option Value} {base : Heap} {aWAYS aWAYS_TURNED aWAYS_MIRRORED : Addr} (T : Txt K mg w aWAYS aWAYS_TURNED aWAYS_MIRRORED) (F : Ats K mg) : DefS P w K mg base CX0 1 "_law_taken" p_L_taken (spW K P_taken R_taken) :=
  def_ok F.L_taken sc_L_taken (fun vs H Q E h => by
    obtain ⟨l, sc, ns, B, ws, ds, rfl, hd, _, ⟨m, rfl, _⟩, _⟩ := h
    rw [List.length_cons, hd.length]
    rfl) fun f cdv A outer s H vs Q E hr h => ⟨_, bd_L_taken T hr, rp_L_taken (sp_taken h)⟩
theorem G_L_pair {P : Program} {w : World} {K : PySem.W.Frag} {mg : Str → Option Value} {base : Heap} {aWAYS aWAYS_TURNED aWAYS_MIRRORED : Addr} (T : Txt K mg w aWAYS aWAYS_TURNED aWAYS_MIRRORED) (F : Ats K mg) : DefS P w K mg base CX0 1 "_law_pair" p_L_pair (spR R_L_pair) :=
  def_okD F.L_pair sc_L_pair (fun ds d h => by cases h; rfl) fun f cdv A outer s H E hr => ⟨_, bd_L_pair T hr, fun ds d h => rp_L_pair h⟩
theorem G_L_shut {P : Program} {w : World} {K : PySem.W.Frag} {mg : Str → Option Value} {base : Heap} {aWAYS aWAYS_TURNED aWAYS_MIRRORED : Addr} (T : Txt K mg w aWAYS aWAYS_TURNED aWAYS_MIRRORED) (F : Ats K mg) : DefS P w K mg base CX0 1 "_law_shut" p_L_shut (spR R_L_shut) :=
  def_okD F.L_shut sc_L_shut (fun ds d h => by cases h; rfl) fun f cdv A outer s H E hr => ⟨_, bd_L_shut T hr, fun ds d h => rp_L_shut h⟩
theorem G_L_within {P : Program} {w : World} {K : PySem.W.Frag} {mg : Str → Option Value} {base : Heap} {aWAYS aWAYS_TURNED aWAYS_MIRRORED : Addr} (T : Txt K mg w aWAYS aWAYS_TURNED aWAYS_MIRRORED) (F : Ats K mg) : DefS P w K mg base CX0 1 "_law_within" p_L_within (spR R_L_within) :=
  def_okD F.L_within sc_L_within (fun ds d h => by cases h; rfl) fun f cdv A outer s H E hr => ⟨_, bd_L_within T hr, fun ds d h => rp_L_within h⟩
theorem G_L_hall {P : Program} {w : World} {K : PySem.W.Frag} {mg : Str → Option Value} {base : Heap} {aWAYS aWAYS_TURNED aWAYS_MIRRORED : Addr} (T : Txt K mg w aWAYS aWAYS_TURNED aWAYS_MIRRORED) (F : Ats K mg) : DefS P w K mg base CX0 2 "_law_hall" p_L_hall (spW K P_hall R_hall) :=
  def_ok F.L_hall sc_L_hall (fun vs H Q E h => by
    obtain ⟨l, sc, ns, B, ws, ds, rfl, hd, _, hp, _⟩ := h
    rw [List.length_cons, hd.length, show ds = _ from hp]
    rfl) fun f cdv A outer s H vs Q E hr h => ⟨_, bd_L_hall T hr (G_L_pair T F) (G_L_shut T F) (G_L_taken T F) (G_L_within T F), rp_L_hall h⟩
theorem X_check_edges {P : Program} {w : World} {K : PySem.W.Frag} {mg : Str → Option Value} {base : Heap} {aWAYS aWAYS_TURNED aWAYS_MIRRORED : Addr} (T : Txt K mg w aWAYS aWAYS_TURNED aWAYS_MIRRORED) (F : Ats K mg) {CH : Addr} (XH : ExS P w K mg base "BadHall" CH ["self", "part", "number"] (sp_initH CH)) : DefS P w K mg base (L2.CX P w) 4 "check_edges" p_check_edges (spO (RX_edges CH)) :=
  def_okO F.check_edges sc_check_edges (fun ds o h => by
    obtain ⟨_, _, _, _, _, _, rfl, _⟩ := h
    rfl) fun f cdv A outer s H E hr => ⟨_, bx_check_edges T XH hr (G_is_edge T F), fun ds o hR σ B H Q ex ev ft => (by obtain ⟨x, ρ', rfl, hx⟩ := rx_edges hR; exact xd_end hx ex ev ft)⟩
theorem X_check_hall {P : Program} {w : World} {K : PySem.W.Frag} {mg : Str → Option Value} {base : Heap} {aWAYS aWAYS_TURNED aWAYS_MIRRORED : Addr} (T : Txt K mg w aWAYS aWAYS_TURNED aWAYS_MIRRORED) (F : Ats K mg) {CH : Addr} (XH : ExS P w K mg base "BadHall" CH ["self", "part", "number"] (sp_initH CH)) : DefS P w K mg base (L2.CX P w) 5 "check_hall" p_check_hall (spO (RX_hall CH)) :=
  def_okO F.check_hall sc_check_hall (fun ds o h => by
    obtain ⟨_, rfl, _⟩ := h
    rfl) fun f cdv A outer s H E hr => ⟨_, bx_check_hall T XH hr (G_door_edge T F) (G_is_side T F) (X_check_edges T F XH), fun ds o hR σ B H Q ex ev ft => (by obtain ⟨x, ρ', rfl, hx⟩ := rx_hall hR; exact xd_end hx ex ev ft)⟩
theorem X_check_cells {P : Program} {w : World} {K : PySem.W.Frag} {mg : Str → Option Value} {base : Heap} {aWAYS aWAYS_TURNED aWAYS_MIRRORED : Addr} (T : Txt K mg w aWAYS aWAYS_TURNED aWAYS_MIRRORED) (F : Ats K mg) {CC : Addr} (XC : ExS P w K mg base "BadCells" CC ["self", "number"] (sp_initC CC)) : DefS P w K mg base (L2.CX P w) 3 "check_cells" p_check_cells (spO (RX_cells CC)) :=
  def_okO F.check_cells sc_check_cells (fun ds o h => by
    obtain ⟨_, _, rfl, _⟩ := h
    rfl) fun f cdv A outer s H E hr => ⟨_, bx_check_cells T XC hr (G_is_cell T F), fun ds o hR σ B H Q ex ev ft => (by obtain ⟨x, ρ', rfl, hx⟩ := rx_cells hR; exact xd_end hx ex ev ft)⟩
theorem X_check_start {P : Program} {w : World} {K : PySem.W.Frag} {mg : Str → Option Value} {base : Heap} {aWAYS aWAYS_TURNED aWAYS_MIRRORED : Addr} (T : Txt K mg w aWAYS aWAYS_TURNED aWAYS_MIRRORED) (F : Ats K mg) {CH CC : Addr} (XH : ExS P w K mg base "BadHall" CH ["self", "part", "number"] (sp_initH CH)) (XC : ExS P w K mg base "BadCells" CC ["self", "number"] (sp_initC CC)) : DefS P w K mg base (L2.CX P w) 6 "check_start" p_check_start (spO (RX_start CH CC)) :=
  def_okO F.check_start sc_check_start (fun ds o h => by
    obtain ⟨_, _, rfl, _⟩ := h
    rfl) fun f cdv A outer s H E hr => ⟨_, bx_check_start T hr (X_check_cells T F XC) (X_check_hall T F XH), fun ds o hR σ B H Q ex ev ft => (by obtain ⟨x, ρ', rfl, hx⟩ := rx_start hR; exact xd_end hx ex ev ft)⟩
theorem X_may {P : Program} {w : World} {K : PySem.W.Frag} {mg : Str → Option Value} {base : Heap} {aWAYS aWAYS_TURNED aWAYS_MIRRORED : Addr} (T : Txt K mg w aWAYS aWAYS_TURNED aWAYS_MIRRORED) (F : Ats K mg) {CH CC : Addr} (XH : ExS P w K mg base "BadHall" CH ["self", "part", "number"] (sp_initH CH)) (XC : ExS P w K mg base "BadCells" CC ["self", "number"] (sp_initC CC)) : DefS P w K mg base (L2.CX P w) 7 "may" p_may (spO (RX_may CH CC)) :=
  def_okO F.may sc_may (fun ds o h => by
    obtain ⟨_, _, rfl, _⟩ := h
    rfl) fun f cdv A outer s H E hr => ⟨_, bx_may T hr (G_first_standing T F) (G_moves_from T F) (X_check_start T F XH XC), fun ds o hR σ B H Q ex ev ft => rx_may_ok hR σ B H _ ex ev ft⟩
theorem G_L_odd {P : Program} {w : World} {K : PySem.W.Frag} {mg : Str → Option Value} {base : Heap} {aWAYS aWAYS_TURNED aWAYS_MIRRORED : Addr} (T : Txt K mg w aWAYS aWAYS_TURNED aWAYS_MIRRORED) (F : Ats K mg) : DefS P w K mg base CX0 2 "_law_odd" p_L_odd (spW K P_odd R_odd) :=
  def_ok F.L_odd sc_L_odd (fun vs H Q E h => by
    obtain ⟨l, sc, ns, B, ws, ds, rfl, hd, _, ⟨t, _, rfl⟩, _⟩ := h
    rw [List.length_cons, hd.length]
    rfl) fun f cdv A outer s H vs Q E hr h => ⟨_, bd_L_odd T hr (G_L_taken T F), rp_L_odd h⟩
theorem H_is_number {P : Program} {w : World} {K : PySem.W.Frag} {mg : Str → Option Value} {base : Heap} {aWAYS aWAYS_TURNED aWAYS_MIRRORED : Addr} (T : Txt K mg w aWAYS aWAYS_TURNED aWAYS_MIRRORED) (F : Ats K mg) : DefS P w K mg base CX0 1 "is_number" p_is_number (spR R_numG) :=
  def_okD F.is_number sc_is_number (fun ds d h => by cases h; rfl) fun f cdv A outer s H E hr => ⟨_, bd_is_number T hr, fun ds d h => rp_numG h⟩
theorem H_is_side {P : Program} {w : World} {K : PySem.W.Frag} {mg : Str → Option Value} {base : Heap} {aWAYS aWAYS_TURNED aWAYS_MIRRORED : Addr} (T : Txt K mg w aWAYS aWAYS_TURNED aWAYS_MIRRORED) (F : Ats K mg) : DefS P w K mg base CX0 2 "is_side" p_is_side (spR R_sideG) :=
  def_okD F.is_side sc_is_side (fun ds d h => by cases h; rfl) fun f cdv A outer s H E hr => ⟨_, bd_is_side T hr (H_is_number T F), fun ds d h => rp_sideG h⟩
theorem H_is_cell {P : Program} {w : World} {K : PySem.W.Frag} {mg : Str → Option Value} {base : Heap} {aWAYS aWAYS_TURNED aWAYS_MIRRORED : Addr} (T : Txt K mg w aWAYS aWAYS_TURNED aWAYS_MIRRORED) (F : Ats K mg) : DefS P w K mg base CX0 2 "is_cell" p_is_cell (spR R_cellG) :=
  def_okD F.is_cell sc_is_cell (fun ds d h => by cases h; rfl) fun f cdv A outer s H E hr => ⟨_, bd_is_cell T hr (H_is_number T F), fun ds d h => rp_cellG h⟩
theorem H_is_edge {P : Program} {w : World} {K : PySem.W.Frag} {mg : Str → Option Value} {base : Heap} {aWAYS aWAYS_TURNED aWAYS_MIRRORED : Addr} (T : Txt K mg w aWAYS aWAYS_TURNED aWAYS_MIRRORED) (F : Ats K mg) : DefS P w K mg base CX0 3 "is_edge" p_is_edge (spR R_edgeG) :=
  def_okD F.is_edge sc_is_edge (fun ds d h => by cases h; rfl) fun f cdv A outer s H E hr => ⟨_, bd_is_edge T hr (H_is_cell T F), fun ds d h => rp_edgeG h⟩
theorem H_door_edge {P : Program} {w : World} {K : PySem.W.Frag} {mg : Str → Option Value} {base : Heap} {aWAYS aWAYS_TURNED aWAYS_MIRRORED : Addr} (T : Txt K mg w aWAYS aWAYS_TURNED aWAYS_MIRRORED) (F : Ats K mg) : DefS P w K mg base CX0 2 "door_edge" p_door_edge (spR R_doorG) :=
  def_okD F.door_edge sc_door_edge (fun ds d h => by cases h; rfl) fun f cdv A outer s H E hr => ⟨_, bd_door_edge T hr (G_edge_from T F) (H_is_number T F), fun ds d h => rp_doorG T.s_WAYS h⟩
theorem Y_check_edges {P : Program} {w : World} {K : PySem.W.Frag} {mg : Str → Option Value} {base : Heap} {aWAYS aWAYS_TURNED aWAYS_MIRRORED : Addr} (T : Txt K mg w aWAYS aWAYS_TURNED aWAYS_MIRRORED) (F : Ats K mg) {CH : Addr} (XH : ExS P w K mg base "BadHall" CH ["self", "part", "number"] (sp_initH CH)) : DefS P w K mg base (L2.CX P w) 4 "check_edges" p_check_edges (spO (RX_edgesG CH)) :=
  def_okO F.check_edges sc_check_edges (fun ds o h => by
    obtain ⟨_, _, _, _, _, _, _, _, _, rfl, _⟩ := h
    rfl) fun f cdv A outer s H E hr => ⟨_, bx_check_edges T XH hr (H_is_edge T F), fun ds o hR σ B H Q ex ev ft => (by obtain ⟨x, ρ', rfl, hx⟩ := rx_edgesG hR; exact xd_end hx ex ev ft)⟩
theorem Y_check_hall {P : Program} {w : World} {K : PySem.W.Frag} {mg : Str → Option Value} {base : Heap} {aWAYS aWAYS_TURNED aWAYS_MIRRORED : Addr} (T : Txt K mg w aWAYS aWAYS_TURNED aWAYS_MIRRORED) (F : Ats K mg) {CH : Addr} (XH : ExS P w K mg base "BadHall" CH ["self", "part", "number"] (sp_initH CH)) : DefS P w K mg base (L2.CX P w) 5 "check_hall" p_check_hall (spO (RX_hallG CH)) :=
  def_okO F.check_hall sc_check_hall (fun ds o h => by
    obtain ⟨_, rfl, _⟩ := h
    rfl) fun f cdv A outer s H E hr => ⟨_, bx_check_hall T XH hr (H_door_edge T F) (H_is_side T F) (Y_check_edges T F XH), fun ds o hR σ B H Q ex ev ft => (by obtain ⟨x, ρ', rfl, hx⟩ := rx_hallG hR; exact xd_end hx ex ev ft)⟩
theorem Y_check_start {P : Program} {w : World} {K : PySem.W.Frag} {mg : Str → Option Value} {base : Heap} {aWAYS aWAYS_TURNED aWAYS_MIRRORED : Addr} (T : Txt K mg w aWAYS aWAYS_TURNED aWAYS_MIRRORED) (F : Ats K mg) {CH CC : Addr} (XH : ExS P w K mg base "BadHall" CH ["self", "part", "number"] (sp_initH CH)) (XC : ExS P w K mg base "BadCells" CC ["self", "number"] (sp_initC CC)) : DefS P w K mg base (L2.CX P w) 6 "check_start" p_check_start (spO (RX_refG CH 1)) :=
  def_okO F.check_start sc_check_start (fun ds o h => by
    obtain ⟨d, cs, e, rfl, hl, _⟩ := h
    rw [List.length_cons, hl]
    rfl) fun f cdv A outer s H E hr => ⟨_, bx_check_start T hr (X_check_cells T F XC) (Y_check_hall T F XH), fun ds o hR σ B H Q ex ev ft => (by obtain ⟨x, ρ', rfl, hx⟩ := rx_startG hR; exact xd_end hx ex ev ft)⟩
theorem od_seqR {t u : TS} {E : XK} {ρ : Rho} {o : Out} (h : OD t E ρ o) : OD (tSeq t u) E ρ o := fun σ B H D ex ev q => h σ B H { D with nx := u D } ex ev q
theorem Y_best_way {P : Program} {w : World} {K : PySem.W.Frag} {mg : Str → Option Value} {base : Heap} {aWAYS aWAYS_TURNED aWAYS_MIRRORED : Addr} (T : Txt K mg w aWAYS aWAYS_TURNED aWAYS_MIRRORED) (F : Ats K mg) {CH CC : Addr} (XH : ExS P w K mg base "BadHall" CH ["self", "part", "number"] (sp_initH CH)) (XC : ExS P w K mg base "BadCells" CC ["self", "number"] (sp_initC CC)) : DefS P w K mg base (L2.CX P w) 7 "best_way" p_best_way (spO (RX_refG CH 3)) :=
  def_okO F.best_way sc_best_way (fun ds o h => by
    obtain ⟨d, cs, e, rfl, hl, _⟩ := h
    rw [List.length_cons, hl]
    rfl) fun f cdv A outer s H E hr => ⟨_, bf_best_way hr (Y_check_start T F XH XC), fun ds o hR σ B H Q ex ev ft => (by obtain ⟨x, ρ', rfl, hx⟩ := rx_firstG hR; exact xd_end hx ex ev ft)⟩
theorem Y_walk {P : Program} {w : World} {K : PySem.W.Frag} {mg : Str → Option Value} {base : Heap} {aWAYS aWAYS_TURNED aWAYS_MIRRORED : Addr} (T : Txt K mg w aWAYS aWAYS_TURNED aWAYS_MIRRORED) (F : Ats K mg) {CH CC : Addr} (XH : ExS P w K mg base "BadHall" CH ["self", "part", "number"] (sp_initH CH)) (XC : ExS P w K mg base "BadCells" CC ["self", "number"] (sp_initC CC)) : DefS P w K mg base (L2.CX P w) 7 "walk" p_walk (spO (RX_refG CH 2)) :=
  def_okO F.walk sc_walk (fun ds o h => by
    obtain ⟨d, cs, e, rfl, hl, _⟩ := h
    rw [List.length_cons, hl]
    rfl) fun f cdv A outer s H E hr => ⟨_, bf_walk hr (Y_check_start T F XH XC), fun ds o hR σ B H Q ex ev ft => (by obtain ⟨x, ρ', rfl, hx⟩ := rx_firstG hR; exact xd_end hx ex ev ft)⟩
theorem Y_may {P : Program} {w : World} {K : PySem.W.Frag} {mg : Str → Option Value} {base : Heap} {aWAYS aWAYS_TURNED aWAYS_MIRRORED : Addr} (T : Txt K mg w aWAYS aWAYS_TURNED aWAYS_MIRRORED) (F : Ats K mg) {CH CC : Addr} (XH : ExS P w K mg base "BadHall" CH ["self", "part", "number"] (sp_initH CH)) (XC : ExS P w K mg base "BadCells" CC ["self", "number"] (sp_initC CC)) : DefS P w K mg base (L2.CX P w) 7 "may" p_may (spO (RX_refG CH 1)) :=
  def_okO F.may sc_may (fun ds o h => by
    obtain ⟨d, cs, e, rfl, hl, _⟩ := h
    rw [List.length_cons, hl]
    rfl) fun f cdv A outer s H E hr => ⟨_, bf_may hr (Y_check_start T F XH XC), fun ds o hR σ B H Q ex ev ft => (by obtain ⟨x, ρ', rfl, hx⟩ := rx_firstG hR; exact xd_end hx ex ev ft)⟩
theorem Y_paper {P : Program} {w : World} {K : PySem.W.Frag} {mg : Str → Option Value} {base : Heap} {aWAYS aWAYS_TURNED aWAYS_MIRRORED : Addr} (T : Txt K mg w aWAYS aWAYS_TURNED aWAYS_MIRRORED) (F : Ats K mg) {CH CC : Addr} (XH : ExS P w K mg base "BadHall" CH ["self", "part", "number"] (sp_initH CH)) (XC : ExS P w K mg base "BadCells" CC ["self", "number"] (sp_initC CC)) : DefS P w K mg base (L2.CX P w) 7 "paper" p_paper (spO (RX_refG CH 2)) :=
  def_okO F.paper sc_paper (fun ds o h => by
    obtain ⟨d, cs, e, rfl, hl, _⟩ := h
    rw [List.length_cons, hl]
    rfl) fun f cdv A outer s H E hr => ⟨_, bf_paper hr (Y_check_start T F XH XC), fun ds o hR σ B H Q ex ev ft => (by obtain ⟨x, ρ', rfl, hx⟩ := rx_firstG hR; exact xd_end hx ex ev ft)⟩
theorem Y_shows {P : Program} {w : World} {K : PySem.W.Frag} {mg : Str → Option Value} {base : Heap} {aWAYS aWAYS_TURNED aWAYS_MIRRORED : Addr} (T : Txt K mg w aWAYS aWAYS_TURNED aWAYS_MIRRORED) (F : Ats K mg) {CH CC : Addr} (XH : ExS P w K mg base "BadHall" CH ["self", "part", "number"] (sp_initH CH)) (XC : ExS P w K mg base "BadCells" CC ["self", "number"] (sp_initC CC)) : DefS P w K mg base (L2.CX P w) 7 "shows" p_shows (spO (RX_refG CH 3)) :=
  def_okO F.shows sc_shows (fun ds o h => by
    obtain ⟨d, cs, e, rfl, hl, _⟩ := h
    rw [List.length_cons, hl]
    rfl) fun f cdv A outer s H E hr => ⟨_, bf_shows hr (Y_check_start T F XH XC), fun ds o hR σ B H Q ex ev ft => (by obtain ⟨x, ρ', rfl, hx⟩ := rx_firstG hR; exact xd_end hx ex ev ft)⟩
theorem Y_turned {P : Program} {w : World} {K : PySem.W.Frag} {mg : Str → Option Value} {base : Heap} {aWAYS aWAYS_TURNED aWAYS_MIRRORED : Addr} (T : Txt K mg w aWAYS aWAYS_TURNED aWAYS_MIRRORED) (F : Ats K mg) {CH CC : Addr} (XH : ExS P w K mg base "BadHall" CH ["self", "part", "number"] (sp_initH CH)) (XC : ExS P w K mg base "BadCells" CC ["self", "number"] (sp_initC CC)) : DefS P w K mg base (L2.CX P w) 7 "turned" p_turned (spO (RX_refG CH 1)) :=
  def_okO F.turned sc_turned (fun ds o h => by
    obtain ⟨d, cs, e, rfl, hl, _⟩ := h
    rw [List.length_cons, hl]
    rfl) fun f cdv A outer s H E hr => ⟨_, bf_turned hr (Y_check_start T F XH XC), fun ds o hR σ B H Q ex ev ft => (by obtain ⟨x, ρ', rfl, hx⟩ := rx_firstG hR; exact xd_end hx ex ev ft)⟩
theorem Y_mirrored {P : Program} {w : World} {K : PySem.W.Frag} {mg : Str → Option Value} {base : Heap} {aWAYS aWAYS_TURNED aWAYS_MIRRORED : Addr} (T : Txt K mg w aWAYS aWAYS_TURNED aWAYS_MIRRORED) (F : Ats K mg) {CH CC : Addr} (XH : ExS P w K mg base "BadHall" CH ["self", "part", "number"] (sp_initH CH)) (XC : ExS P w K mg base "BadCells" CC ["self", "number"] (sp_initC CC)) : DefS P w K mg base (L2.CX P w) 7 "mirrored" p_mirrored (spO (RX_refG CH 1)) :=
  def_okO F.mirrored sc_mirrored (fun ds o h => by
    obtain ⟨d, cs, e, rfl, hl, _⟩ := h
    rw [List.length_cons, hl]
    rfl) fun f cdv A outer s H E hr => ⟨_, bf_mirrored hr (Y_check_start T F XH XC), fun ds o hR σ B H Q ex ev ft => (by obtain ⟨x, ρ', rfl, hx⟩ := rx_firstG hR; exact xd_end hx ex ev ft)⟩
theorem Y_reached {P : Program} {w : World} {K : PySem.W.Frag} {mg : Str → Option Value} {base : Heap} {aWAYS aWAYS_TURNED aWAYS_MIRRORED : Addr} (T : Txt K mg w aWAYS aWAYS_TURNED aWAYS_MIRRORED) (F : Ats K mg) {CH CC : Addr} (XH : ExS P w K mg base "BadHall" CH ["self", "part", "number"] (sp_initH CH)) (XC : ExS P w K mg base "BadCells" CC ["self", "number"] (sp_initC CC)) : DefS P w K mg base (L2.CX P w) 7 "reached" p_reached (spO (RX_refG CH 1)) :=
  def_okO F.reached sc_reached (fun ds o h => by
    obtain ⟨d, cs, e, rfl, hl, _⟩ := h
    rw [List.length_cons, hl]
    rfl) fun f cdv A outer s H E hr => ⟨_, bf_reached hr (Y_check_start T F XH XC), fun ds o hR σ B H Q ex ev ft => (by obtain ⟨x, ρ', rfl, hx⟩ := rx_firstG hR; exact xd_end hx ex ev ft)⟩
theorem Y_far {P : Program} {w : World} {K : PySem.W.Frag} {mg : Str → Option Value} {base : Heap} {aWAYS aWAYS_TURNED aWAYS_MIRRORED : Addr} (T : Txt K mg w aWAYS aWAYS_TURNED aWAYS_MIRRORED) (F : Ats K mg) {CH CC : Addr} (XH : ExS P w K mg base "BadHall" CH ["self", "part", "number"] (sp_initH CH)) (XC : ExS P w K mg base "BadCells" CC ["self", "number"] (sp_initC CC)) : DefS P w K mg base (L2.CX P w) 7 "far" p_far (spO (RX_refG CH 1)) :=
  def_okO F.far sc_far (fun ds o h => by
    obtain ⟨d, cs, e, rfl, hl, _⟩ := h
    rw [List.length_cons, hl]
    rfl) fun f cdv A outer s H E hr => ⟨_, bf_far hr (Y_check_start T F XH XC), fun ds o hR σ B H Q ex ev ft => (by obtain ⟨x, ρ', rfl, hx⟩ := rx_firstG hR; exact xd_end hx ex ev ft)⟩
theorem Y_still {P : Program} {w : World} {K : PySem.W.Frag} {mg : Str → Option Value} {base : Heap} {aWAYS aWAYS_TURNED aWAYS_MIRRORED : Addr} (T : Txt K mg w aWAYS aWAYS_TURNED aWAYS_MIRRORED) (F : Ats K mg) {CH CC : Addr} (XH : ExS P w K mg base "BadHall" CH ["self", "part", "number"] (sp_initH CH)) (XC : ExS P w K mg base "BadCells" CC ["self", "number"] (sp_initC CC)) : DefS P w K mg base (L2.CX P w) 7 "still" p_still (spO (RX_refG CH 1)) :=
  def_okO F.still sc_still (fun ds o h => by
    obtain ⟨d, cs, e, rfl, hl, _⟩ := h
    rw [List.length_cons, hl]
    rfl) fun f cdv A outer s H E hr => ⟨_, bf_still hr (Y_check_start T F XH XC), fun ds o hR σ B H Q ex ev ft => (by obtain ⟨x, ρ', rfl, hx⟩ := rx_firstG hR; exact xd_end hx ex ev ft)⟩
theorem Y_oneway {P : Program} {w : World} {K : PySem.W.Frag} {mg : Str → Option Value} {base : Heap} {aWAYS aWAYS_TURNED aWAYS_MIRRORED : Addr} (T : Txt K mg w aWAYS aWAYS_TURNED aWAYS_MIRRORED) (F : Ats K mg) {CH CC : Addr} (XH : ExS P w K mg base "BadHall" CH ["self", "part", "number"] (sp_initH CH)) (XC : ExS P w K mg base "BadCells" CC ["self", "number"] (sp_initC CC)) : DefS P w K mg base (L2.CX P w) 7 "oneway" p_oneway (spO (RX_refG CH 1)) :=
  def_okO F.oneway sc_oneway (fun ds o h => by
    obtain ⟨d, cs, e, rfl, hl, _⟩ := h
    rw [List.length_cons, hl]
    rfl) fun f cdv A outer s H E hr => ⟨_, bf_oneway hr (Y_check_start T F XH XC), fun ds o hR σ B H Q ex ev ft => (by obtain ⟨x, ρ', rfl, hx⟩ := rx_firstG hR; exact xd_end hx ex ev ft)⟩
theorem Y_lost {P : Program} {w : World} {K : PySem.W.Frag} {mg : Str → Option Value} {base : Heap} {aWAYS aWAYS_TURNED aWAYS_MIRRORED : Addr} (T : Txt K mg w aWAYS aWAYS_TURNED aWAYS_MIRRORED) (F : Ats K mg) {CH CC : Addr} (XH : ExS P w K mg base "BadHall" CH ["self", "part", "number"] (sp_initH CH)) (XC : ExS P w K mg base "BadCells" CC ["self", "number"] (sp_initC CC)) : DefS P w K mg base (L2.CX P w) 7 "lost" p_lost (spO (RX_refG CH 2)) :=
  def_okO F.lost sc_lost (fun ds o h => by
    obtain ⟨d, cs, e, rfl, hl, _⟩ := h
    rw [List.length_cons, hl]
    rfl) fun f cdv A outer s H E hr => ⟨_, bf_lost hr (Y_check_start T F XH XC), fun ds o hR σ B H Q ex ev ft => (by obtain ⟨x, ρ', rfl, hx⟩ := rx_firstG hR; exact xd_end hx ex ev ft)⟩
theorem Y_written {P : Program} {w : World} {K : PySem.W.Frag} {mg : Str → Option Value} {base : Heap} {aWAYS aWAYS_TURNED aWAYS_MIRRORED : Addr} (T : Txt K mg w aWAYS aWAYS_TURNED aWAYS_MIRRORED) (F : Ats K mg) {CH CC : Addr} (XH : ExS P w K mg base "BadHall" CH ["self", "part", "number"] (sp_initH CH)) (XC : ExS P w K mg base "BadCells" CC ["self", "number"] (sp_initC CC)) : DefS P w K mg base (L2.CX P w) 7 "written" p_written (spO (RX_refG CH 1)) :=
  def_okO F.written sc_written (fun ds o h => by
    obtain ⟨d, cs, e, rfl, hl, _⟩ := h
    rw [List.length_cons, hl]
    rfl) fun f cdv A outer s H E hr => ⟨_, bf_written hr (Y_check_start T F XH XC), fun ds o hR σ B H Q ex ev ft => (by obtain ⟨x, ρ', rfl, hx⟩ := rx_firstG hR; exact xd_end hx ex ev ft)⟩
theorem Y_shortest {P : Program} {w : World} {K : PySem.W.Frag} {mg : Str → Option Value} {base : Heap} {aWAYS aWAYS_TURNED aWAYS_MIRRORED : Addr} (T : Txt K mg w aWAYS aWAYS_TURNED aWAYS_MIRRORED) (F : Ats K mg) {CH CC : Addr} (XH : ExS P w K mg base "BadHall" CH ["self", "part", "number"] (sp_initH CH)) (XC : ExS P w K mg base "BadCells" CC ["self", "number"] (sp_initC CC)) : DefS P w K mg base (L2.CX P w) 8 "shortest" p_shortest (spO (RX_refG CH 2)) :=
  def_okO F.shortest sc_shortest (fun ds o h => by
    obtain ⟨d, cs, e, rfl, hl, _⟩ := h
    rw [List.length_cons, hl]
    rfl) fun f cdv A outer s H E hr => ⟨_, bf_shortest hr (Y_best_way T F XH XC), fun ds o hR σ B H Q ex ev ft => (by obtain ⟨x, ρ', rfl, hx⟩ := rx_bestG hR; exact xd_end hx ex ev ft)⟩
theorem Y_gentlest {P : Program} {w : World} {K : PySem.W.Frag} {mg : Str → Option Value} {base : Heap} {aWAYS aWAYS_TURNED aWAYS_MIRRORED : Addr} (T : Txt K mg w aWAYS aWAYS_TURNED aWAYS_MIRRORED) (F : Ats K mg) {CH CC : Addr} (XH : ExS P w K mg base "BadHall" CH ["self", "part", "number"] (sp_initH CH)) (XC : ExS P w K mg base "BadCells" CC ["self", "number"] (sp_initC CC)) : DefS P w K mg base (L2.CX P w) 8 "gentlest" p_gentlest (spO (RX_refG CH 2)) :=
  def_okO F.gentlest sc_gentlest (fun ds o h => by
    obtain ⟨d, cs, e, rfl, hl, _⟩ := h
    rw [List.length_cons, hl]
    rfl) fun f cdv A outer s H E hr => ⟨_, bf_gentlest hr (Y_best_way T F XH XC), fun ds o hR σ B H Q ex ev ft => od_seqR (rx_best1G hR) σ B H _ ex ev ft⟩
theorem Y_lifted {P : Program} {w : World} {K : PySem.W.Frag} {mg : Str → Option Value} {base : Heap} {aWAYS aWAYS_TURNED aWAYS_MIRRORED : Addr} (T : Txt K mg w aWAYS aWAYS_TURNED aWAYS_MIRRORED) (F : Ats K mg) {CH CC : Addr} (XH : ExS P w K mg base "BadHall" CH ["self", "part", "number"] (sp_initH CH)) (XC : ExS P w K mg base "BadCells" CC ["self", "number"] (sp_initC CC)) : DefKX P w K mg base 7 "lifted" 3 "most" (.int 6) p_lifted (spO (RX_refG CH 3)) := by
  obtain ⟨f, fd, ds, g, h1, h2, h3, h4, h5⟩ := F.lifted
  refine ⟨f, fd, ds, g, h1, h2.kp, h2.ok sc_lifted (fun vs H Q E ⟨B, ds, o, _, hv, ⟨d, cs, e, e1, hl, _⟩, _⟩ => ?_) (fun cdv A outer s H vs Q E hr ⟨B, ds, o, ex, hv, hR, ft⟩ => ?_), h3, h4, h5⟩
  · rw [hv.length, e1, List.length_cons, hl]
    rfl
  · refine ⟨_, bf_lifted hr (Y_check_start T F XH XC), ?_⟩
    have hl : ds.length = 4 := by
      obtain ⟨d, cs, e, e1, hl, _⟩ := hR
      rw [e1, List.length_cons, hl]
    obtain ⟨x, ρ', rfl, hx⟩ := rx_firstG (N := n_lifted.length) hR
    exact xd_end hx ex (env_start hv (by rw [hv.length, hl]; decide)) ft
theorem Y_make {P : Program} {w : World} {K : PySem.W.Frag} {mg : Str → Option Value} {base : Heap} {aWAYS aWAYS_TURNED aWAYS_MIRRORED : Addr} (T : Txt K mg w aWAYS aWAYS_TURNED aWAYS_MIRRORED) (F : Ats K mg) {CH CC CB : Addr} (I : IAt K CB "Bench.__init__" s_B_init p_B_init) (XH : ExS P w K mg base "BadHall" CH ["self", "part", "number"] (sp_initH CH)) (XC : ExS P w K mg base "BadCells" CC ["self", "number"] (sp_initC CC)) : MakeS P w K mg base (L2.CX P w) 7 CB p_B_init (spI CB (RX_refG CH 1)) :=
  init_keepsX I sc_B_init (fun vs H Q E h => by
    obtain ⟨a, dx, us, B, ds, e, rfl, _, _, hd, ⟨d, cs, e2, rfl, hl, _⟩, _⟩ := h
    rw [List.length_cons, hd.length, List.length_cons, hl]
    rfl) fun f cdv A outer s H vs Q E hr h => ⟨_, bf_B_init hr (Y_check_start T F XH XC), rx_initG h⟩
theorem MakeS.mono {P : Program} {w : World} {K : PySem.W.Frag} {mg : Str → Option Value} {base : Heap} {CX : CXT} {k j : Nat} {C : Addr} {ps : List Str} {sp : Sp} (h : MakeS P w K mg base CX k C ps sp) (hj : k ≤ j) : MakeS P w K mg base CX j C ps sp :=
  let ⟨f, fd, a, b, d⟩ := h
  ⟨f, fd, a, b, d.mono hj⟩
theorem DefKX.mono {P : Program} {w : World} {K : PySem.W.Frag} {mg : Str → Option Value} {base : Heap} {k j n : Nat} {x ky : Str} {dv : V} {ps : List Str} {sp : Sp} (h : DefKX P w K mg base k x n ky dv ps sp) (hj : k ≤ j) : DefKX P w K mg base j x n ky dv ps sp :=
  let ⟨f, fd, ds, g, a, b, c, d, e, i⟩ := h.ex
  ⟨f, fd, ds, g, a, b, c.mono hj, d, e, i⟩
theorem wkx {P : Program} {w : World} {K : PySem.W.Frag} {mg : Str → Option Value} {base : Heap} {aWAYS aWAYS_TURNED aWAYS_MIRRORED : Addr} (T : Txt K mg w aWAYS aWAYS_TURNED aWAYS_MIRRORED) (F : Ats K mg) {CH CC CB : Addr} (I : IAt K CB "Bench.__init__" s_B_init p_B_init) (hB : mg "Bench" = some (.ref CB)) (XH : ExS P w K mg base "BadHall" CH ["self", "part", "number"] (sp_initH CH)) (XC : ExS P w K mg base "BadCells" CC ["self", "number"] (sp_initC CC)) : WkX P w K mg base CH CB :=
  { walk := (Y_walk T F XH XC).mono (by decide), may := (Y_may T F XH XC).mono (by decide), shortest := (Y_shortest T F XH XC).mono (by decide), gentlest := (Y_gentlest T F XH XC).mono (by decide), reached := (Y_reached T F XH XC).mono (by decide), still := (Y_still T F XH XC).mono (by decide), oneway := (Y_oneway T F XH XC).mono (by decide), lost := (Y_lost T F XH XC).mono (by decide), far := (Y_far T F XH XC).mono (by decide), paper := (Y_paper T F XH XC).mono (by decide), shows := (Y_shows T F XH XC).mono (by decide), turned := (Y_turned T F XH XC).mono (by decide), mirrored := (Y_mirrored T F XH XC).mono (by decide), written := (Y_written T F XH XC).mono (by decide), lifted := (Y_lifted T F XH XC).mono (by decide), make := (Y_make T F I XH XC).mono (by decide), bench := hB }
/-! the law -/
theorem ok_law {P : Program} {w : World} {K : PySem.W.Frag} {mg : Str → Option Value} {base : Heap} {aWAYS aWAYS_TURNED aWAYS_MIRRORED CH CC CB CHx f c cR PT PR : Addr} {cA : Str → Addr} {oc kV doc pm ct : Value} {od an : Option Addr} {osl : Array (Option Value)} (T : Txt K mg w aWAYS aWAYS_TURNED aWAYS_MIRRORED) (F : Ats K mg)
    (XH : ExS P w K mg base "BadHall" CH ["self", "part", "number"] (sp_initH CH)) (XC : ExS P w K mg base "BadCells" CC ["self", "number"] (sp_initC CC)) (I : IAt K CB "Bench.__init__" s_B_init p_B_init) (hB : mg "Bench" = some (.ref CB)) (hall : mg "HallError" = some (.ref CHx)) (xh : XcOk K mg CH CHx cA 4) (G : WordD K mg) (hne : PT ≠ PR) (TB : TabB base mg c PT) (TBR : TabB base mg cR PR) (R : AtC K mg "_law_works" s_L_works p_L_works cR)
    (lk : K.lookup f = some ⟨oc, od, .func (PySem.W.fnOf "law" "law" (defArgs s_law) (defBody s_law) (defScope s_law) .none kV doc pm an (.ref c) ct), osl⟩) (hcd : PySem.W.codeIn K (.ref c) "law" = true) :
    FnOk P w K mg base CX0 12 f (PySem.W.fnOf "law" "law" (defArgs s_law) (defBody s_law) (defScope s_law) .none kV doc pm an (.ref c) ct) p_law (sp_law K (lawT PT PR)) := by
  refine fn_of lk hcd sc_law (fun vs H Q E h => ?_) fun A outer s H vs Q E hr h => ⟨_, (bd_law T (fun p lp pos => pe_lam1 (CH := CHx) (cA := cA) T hall ((X_may T F XH XC).mono (by decide)) G hne TB (k := 9) (hr.mono (by omega)) p lp pos) (fun s1 H1 sc C cl fp p lp pos hy hg => pe_lamK (kk := 10) (q := nmL "_law_works") (CH := CHx) (cA := cA) T hall G (hr.mono (by omega)) (by decide) p lp pos hy hg) (fun p lp pos => pe_lam3 (CH := CHx) (cA := cA) T hall ((Y_may T F XH XC).mono (by decide)) G hne TB (k := 9) (hr.mono (by omega)) p lp pos) (fun p lp pos => pe_lam4 (CH := CHx) (cA := cA) T hall ((Y_may T F XH XC).mono (by decide)) G hne TB (k := 9) (hr.mono (by omega)) p lp pos) (fun p lp pos => pe_lam5 (CH := CHx) (cA := cA) T hall ((X_may T F XH XC).mono (by decide)) G hne TB (k := 9) (hr.mono (by omega)) p lp pos) (fun p lp pos => pe_lam6 (CH := CHx) (cA := cA) T hall ((Y_may T F XH XC).mono (by decide)) G hne TB (k := 9) (hr.mono (by omega)) p lp pos) (fun p lp pos => pe_lam7 (CH := CHx) (cA := cA) T hall ((X_may T F XH XC).mono (by decide)) G hne TB (k := 9) (hr.mono (by omega)) p lp pos) (hr.mono (by omega)) (G_L_hall T F) (G_L_odd T F) ((G_L_works hne TBR R).mono (by decide))).nox, rp_law01 (Y := (cxOf CX0 P w K mg base n_law "law" (defScope s_law) f (.ref c) A outer s H E).nox) xh (fun z => wks_run (wkx T F I hB XH XC) z) h⟩
  obtain ⟨sc, ns, rfl, _⟩ := h
  rfl
end Pd
/-! Top01 -/
set_option Elab.async false
set_option linter.all false
set_option maxRecDepth 100000
set_option maxHeartbeats 4000000
/-! the facts of the program's top, and the law's promise from them -/
namespace Pd
variable [Pd.Wd]
open PySem PySem.Spec PyProof.Rows L2 LamX
theorem at_of {K : PySem.W.Frag} {h : Heap} {mg : Str → Option Value} (X : K.In h) (G : h.Ns mainGlobals mg) {fa : List He.Fa} {fn : List He.DefD} (c : He.SaysD fa fn K) {x : Str} {st : Stmt} {ps : List Str} (i : Nat) (h1 : fn[i]? = some ⟨(x, none), x, x, defArgs st, defBody st, defScope st, [], []⟩) (h2 : fa[i]? = some (.glo x))
    (hb : ∀ (kV doc pm : Value) (an : Option Addr) (cdv ct : Value) (us : List Value), us.length = ps.length → bindArgs (PySem.W.fnOf x x (defArgs st) (defBody st) (defScope st) .none kV doc pm an cdv ct) ⟨us, []⟩ = pure (ps.zip us)) : At K mg x st ps := by
  obtain ⟨fd, F⟩ := c.def_ i h1
  obtain ⟨oc, od, dV, kV, doc, pm, an, cdv, ct, osl, e, lk, hc, hD, _⟩ := F.ex
  have g := He.glo_ok X G (c.fact i h2)
  have hV : dV = .none := by
    rcases hD with ⟨_, q⟩ | ⟨q, _⟩
    · exact q
    · exact absurd rfl q
  subst hV
  subst e
  have F2 : Fun K x x st (He.ga K x) _ := fun_mk lk hc F.kp
  exact ⟨He.ga K x, _, g, F2, F2.binds hb⟩
theorem at_is_number {K : PySem.W.Frag} {h : Heap} {mg : Str → Option Value} (X : K.In h) (G : h.Ns mainGlobals mg) (c : He.SaysD topFa topFn K) : At K mg "is_number" s_is_number p_is_number := at_of X G c 0 rfl rfl fun _ _ _ _ _ _ us hl => match us, hl with | [_], _ => rfl
theorem at_is_side {K : PySem.W.Frag} {h : Heap} {mg : Str → Option Value} (X : K.In h) (G : h.Ns mainGlobals mg) (c : He.SaysD topFa topFn K) : At K mg "is_side" s_is_side p_is_side := at_of X G c 1 rfl rfl fun _ _ _ _ _ _ us hl => match us, hl with | [_], _ => rfl
theorem at_is_cell {K : PySem.W.Frag} {h : Heap} {mg : Str → Option Value} (X : K.In h) (G : h.Ns mainGlobals mg) (c : He.SaysD topFa topFn K) : At K mg "is_cell" s_is_cell p_is_cell := at_of X G c 2 rfl rfl fun _ _ _ _ _ _ us hl => match us, hl with | [_, _], _ => rfl
theorem at_is_edge {K : PySem.W.Frag} {h : Heap} {mg : Str → Option Value} (X : K.In h) (G : h.Ns mainGlobals mg) (c : He.SaysD topFa topFn K) : At K mg "is_edge" s_is_edge p_is_edge := at_of X G c 3 rfl rfl fun _ _ _ _ _ _ us hl => match us, hl with | [_, _], _ => rfl
theorem at_edge_from {K : PySem.W.Frag} {h : Heap} {mg : Str → Option Value} (X : K.In h) (G : h.Ns mainGlobals mg) (c : He.SaysD topFa topFn K) : At K mg "edge_from" s_edge_from p_edge_from := at_of X G c 4 rfl rfl fun _ _ _ _ _ _ us hl => match us, hl with | [_, _, _], _ => rfl
theorem at_edge_crossed {K : PySem.W.Frag} {h : Heap} {mg : Str → Option Value} (X : K.In h) (G : h.Ns mainGlobals mg) (c : He.SaysD topFa topFn K) : At K mg "edge_crossed" s_edge_crossed p_edge_crossed := at_of X G c 5 rfl rfl fun _ _ _ _ _ _ us hl => match us, hl with | [_, _], _ => rfl
theorem at_next_cell {K : PySem.W.Frag} {h : Heap} {mg : Str → Option Value} (X : K.In h) (G : h.Ns mainGlobals mg) (c : He.SaysD topFa topFn K) : At K mg "next_cell" s_next_cell p_next_cell := at_of X G c 6 rfl rfl fun _ _ _ _ _ _ us hl => match us, hl with | [_, _], _ => rfl
theorem at_door_edge {K : PySem.W.Frag} {h : Heap} {mg : Str → Option Value} (X : K.In h) (G : h.Ns mainGlobals mg) (c : He.SaysD topFa topFn K) : At K mg "door_edge" s_door_edge p_door_edge := at_of X G c 7 rfl rfl fun _ _ _ _ _ _ us hl => match us, hl with | [_], _ => rfl
theorem at_check_edges {K : PySem.W.Frag} {h : Heap} {mg : Str → Option Value} (X : K.In h) (G : h.Ns mainGlobals mg) (c : He.SaysD topFa topFn K) : At K mg "check_edges" s_check_edges p_check_edges := at_of X G c 8 rfl rfl fun _ _ _ _ _ _ us hl => match us, hl with | [_, _, _, _, _], _ => rfl
theorem at_check_hall {K : PySem.W.Frag} {h : Heap} {mg : Str → Option Value} (X : K.In h) (G : h.Ns mainGlobals mg) (c : He.SaysD topFa topFn K) : At K mg "check_hall" s_check_hall p_check_hall := at_of X G c 9 rfl rfl fun _ _ _ _ _ _ us hl => match us, hl with | [_], _ => rfl
theorem at_check_cells {K : PySem.W.Frag} {h : Heap} {mg : Str → Option Value} (X : K.In h) (G : h.Ns mainGlobals mg) (c : He.SaysD topFa topFn K) : At K mg "check_cells" s_check_cells p_check_cells := at_of X G c 10 rfl rfl fun _ _ _ _ _ _ us hl => match us, hl with | [_, _], _ => rfl
theorem at_check_start {K : PySem.W.Frag} {h : Heap} {mg : Str → Option Value} (X : K.In h) (G : h.Ns mainGlobals mg) (c : He.SaysD topFa topFn K) : At K mg "check_start" s_check_start p_check_start := at_of X G c 11 rfl rfl fun _ _ _ _ _ _ us hl => match us, hl with | [_, _], _ => rfl
theorem at_first_standing {K : PySem.W.Frag} {h : Heap} {mg : Str → Option Value} (X : K.In h) (G : h.Ns mainGlobals mg) (c : He.SaysD topFa topFn K) : At K mg "first_standing" s_first_standing p_first_standing := at_of X G c 12 rfl rfl fun _ _ _ _ _ _ us hl => match us, hl with | [_, _], _ => rfl
theorem at_door_edges {K : PySem.W.Frag} {h : Heap} {mg : Str → Option Value} (X : K.In h) (G : h.Ns mainGlobals mg) (c : He.SaysD topFa topFn K) : At K mg "door_edges" s_door_edges p_door_edges := at_of X G c 13 rfl rfl fun _ _ _ _ _ _ us hl => match us, hl with | [_, _], _ => rfl
theorem at_swung_ways {K : PySem.W.Frag} {h : Heap} {mg : Str → Option Value} (X : K.In h) (G : h.Ns mainGlobals mg) (c : He.SaysD topFa topFn K) : At K mg "swung_ways" s_swung_ways p_swung_ways := at_of X G c 14 rfl rfl fun _ _ _ _ _ _ us hl => match us, hl with | [_, _, _, _], _ => rfl
theorem at_step_done {K : PySem.W.Frag} {h : Heap} {mg : Str → Option Value} (X : K.In h) (G : h.Ns mainGlobals mg) (c : He.SaysD topFa topFn K) : At K mg "step_done" s_step_done p_step_done := at_of X G c 15 rfl rfl fun _ _ _ _ _ _ us hl => match us, hl with | [_, _, _], _ => rfl
theorem at_moves_from {K : PySem.W.Frag} {h : Heap} {mg : Str → Option Value} (X : K.In h) (G : h.Ns mainGlobals mg) (c : He.SaysD topFa topFn K) : At K mg "moves_from" s_moves_from p_moves_from := at_of X G c 16 rfl rfl fun _ _ _ _ _ _ us hl => match us, hl with | [_, _], _ => rfl
theorem at_may {K : PySem.W.Frag} {h : Heap} {mg : Str → Option Value} (X : K.In h) (G : h.Ns mainGlobals mg) (c : He.SaysD topFa topFn K) : At K mg "may" s_may p_may := at_of X G c 17 rfl rfl fun _ _ _ _ _ _ us hl => match us, hl with | [_, _], _ => rfl
theorem at_best_way {K : PySem.W.Frag} {h : Heap} {mg : Str → Option Value} (X : K.In h) (G : h.Ns mainGlobals mg) (c : He.SaysD topFa topFn K) : At K mg "best_way" s_best_way p_best_way := at_of X G c 18 rfl rfl fun _ _ _ _ _ _ us hl => match us, hl with | [_, _, _, _], _ => rfl
theorem at_walk {K : PySem.W.Frag} {h : Heap} {mg : Str → Option Value} (X : K.In h) (G : h.Ns mainGlobals mg) (c : He.SaysD topFa topFn K) : At K mg "walk" s_walk p_walk := at_of X G c 19 rfl rfl fun _ _ _ _ _ _ us hl => match us, hl with | [_, _, _], _ => rfl
theorem at_paper {K : PySem.W.Frag} {h : Heap} {mg : Str → Option Value} (X : K.In h) (G : h.Ns mainGlobals mg) (c : He.SaysD topFa topFn K) : At K mg "paper" s_paper p_paper := at_of X G c 20 rfl rfl fun _ _ _ _ _ _ us hl => match us, hl with | [_, _, _], _ => rfl
theorem at_shows {K : PySem.W.Frag} {h : Heap} {mg : Str → Option Value} (X : K.In h) (G : h.Ns mainGlobals mg) (c : He.SaysD topFa topFn K) : At K mg "shows" s_shows p_shows := at_of X G c 21 rfl rfl fun _ _ _ _ _ _ us hl => match us, hl with | [_, _, _, _], _ => rfl
theorem at_turned {K : PySem.W.Frag} {h : Heap} {mg : Str → Option Value} (X : K.In h) (G : h.Ns mainGlobals mg) (c : He.SaysD topFa topFn K) : At K mg "turned" s_turned p_turned := at_of X G c 22 rfl rfl fun _ _ _ _ _ _ us hl => match us, hl with | [_, _], _ => rfl
theorem at_mirrored {K : PySem.W.Frag} {h : Heap} {mg : Str → Option Value} (X : K.In h) (G : h.Ns mainGlobals mg) (c : He.SaysD topFa topFn K) : At K mg "mirrored" s_mirrored p_mirrored := at_of X G c 23 rfl rfl fun _ _ _ _ _ _ us hl => match us, hl with | [_, _], _ => rfl
theorem at_shortest {K : PySem.W.Frag} {h : Heap} {mg : Str → Option Value} (X : K.In h) (G : h.Ns mainGlobals mg) (c : He.SaysD topFa topFn K) : At K mg "shortest" s_shortest p_shortest := at_of X G c 24 rfl rfl fun _ _ _ _ _ _ us hl => match us, hl with | [_, _, _], _ => rfl
theorem at_gentlest {K : PySem.W.Frag} {h : Heap} {mg : Str → Option Value} (X : K.In h) (G : h.Ns mainGlobals mg) (c : He.SaysD topFa topFn K) : At K mg "gentlest" s_gentlest p_gentlest := at_of X G c 25 rfl rfl fun _ _ _ _ _ _ us hl => match us, hl with | [_, _, _], _ => rfl
theorem at_reached {K : PySem.W.Frag} {h : Heap} {mg : Str → Option Value} (X : K.In h) (G : h.Ns mainGlobals mg) (c : He.SaysD topFa topFn K) : At K mg "reached" s_reached p_reached := at_of X G c 26 rfl rfl fun _ _ _ _ _ _ us hl => match us, hl with | [_, _], _ => rfl
theorem at_far {K : PySem.W.Frag} {h : Heap} {mg : Str → Option Value} (X : K.In h) (G : h.Ns mainGlobals mg) (c : He.SaysD topFa topFn K) : At K mg "far" s_far p_far := at_of X G c 27 rfl rfl fun _ _ _ _ _ _ us hl => match us, hl with | [_, _], _ => rfl
theorem at_still {K : PySem.W.Frag} {h : Heap} {mg : Str → Option Value} (X : K.In h) (G : h.Ns mainGlobals mg) (c : He.SaysD topFa topFn K) : At K mg "still" s_still p_still := at_of X G c 28 rfl rfl fun _ _ _ _ _ _ us hl => match us, hl with | [_, _], _ => rfl
theorem at_oneway {K : PySem.W.Frag} {h : Heap} {mg : Str → Option Value} (X : K.In h) (G : h.Ns mainGlobals mg) (c : He.SaysD topFa topFn K) : At K mg "oneway" s_oneway p_oneway := at_of X G c 29 rfl rfl fun _ _ _ _ _ _ us hl => match us, hl with | [_, _], _ => rfl
theorem at_lost {K : PySem.W.Frag} {h : Heap} {mg : Str → Option Value} (X : K.In h) (G : h.Ns mainGlobals mg) (c : He.SaysD topFa topFn K) : At K mg "lost" s_lost p_lost := at_of X G c 30 rfl rfl fun _ _ _ _ _ _ us hl => match us, hl with | [_, _, _], _ => rfl
theorem at_written {K : PySem.W.Frag} {h : Heap} {mg : Str → Option Value} (X : K.In h) (G : h.Ns mainGlobals mg) (c : He.SaysD topFa topFn K) : At K mg "written" s_written p_written := at_of X G c 31 rfl rfl fun _ _ _ _ _ _ us hl => match us, hl with | [_, _], _ => rfl
theorem at_L_taken {K : PySem.W.Frag} {h : Heap} {mg : Str → Option Value} (X : K.In h) (G : h.Ns mainGlobals mg) (c : He.SaysD topFa topFn K) : At K mg "_law_taken" s_L_taken p_L_taken := at_of X G c 32 rfl rfl fun _ _ _ _ _ _ us hl => match us, hl with | [_, _], _ => rfl
theorem at_L_pair {K : PySem.W.Frag} {h : Heap} {mg : Str → Option Value} (X : K.In h) (G : h.Ns mainGlobals mg) (c : He.SaysD topFa topFn K) : At K mg "_law_pair" s_L_pair p_L_pair := at_of X G c 33 rfl rfl fun _ _ _ _ _ _ us hl => match us, hl with | [_, _], _ => rfl
theorem at_L_shut {K : PySem.W.Frag} {h : Heap} {mg : Str → Option Value} (X : K.In h) (G : h.Ns mainGlobals mg) (c : He.SaysD topFa topFn K) : At K mg "_law_shut" s_L_shut p_L_shut := at_of X G c 34 rfl rfl fun _ _ _ _ _ _ us hl => match us, hl with | [_], _ => rfl
theorem at_L_within {K : PySem.W.Frag} {h : Heap} {mg : Str → Option Value} (X : K.In h) (G : h.Ns mainGlobals mg) (c : He.SaysD topFa topFn K) : At K mg "_law_within" s_L_within p_L_within := at_of X G c 35 rfl rfl fun _ _ _ _ _ _ us hl => match us, hl with | [_, _], _ => rfl
theorem at_L_hall {K : PySem.W.Frag} {h : Heap} {mg : Str → Option Value} (X : K.In h) (G : h.Ns mainGlobals mg) (c : He.SaysD topFa topFn K) : At K mg "_law_hall" s_L_hall p_L_hall := at_of X G c 36 rfl rfl fun _ _ _ _ _ _ us hl => match us, hl with | [_, _, _], _ => rfl
theorem at_L_odd {K : PySem.W.Frag} {h : Heap} {mg : Str → Option Value} (X : K.In h) (G : h.Ns mainGlobals mg) (c : He.SaysD topFa topFn K) : At K mg "_law_odd" s_L_odd p_L_odd := at_of X G c 37 rfl rfl fun _ _ _ _ _ _ us hl => match us, hl with | [_, _], _ => rfl
theorem at_law {K : PySem.W.Frag} {h : Heap} {mg : Str → Option Value} (X : K.In h) (G : h.Ns mainGlobals mg) (c : He.SaysD topFa topFn K) : At K mg "law" s_law p_law := at_of X G c 38 rfl rfl fun _ _ _ _ _ _ us hl => match us, hl with | [_], _ => rfl
theorem at_lifted {K : PySem.W.Frag} {h : Heap} {mg : Str → Option Value} (X : K.In h) (G : h.Ns mainGlobals mg) (c : He.SaysD topFa topFn K) : AtL K mg s_lifted p_lifted := by
  obtain ⟨fd, F⟩ := c.def_ 41 (d := topDK "lifted" s_lifted) rfl
  obtain ⟨ds, hv, hb⟩ := FunD.binds0 (ps := p_lifted) F 3 (by simp [He.DefD.kws, topDK]) rfl fun D doc pm an cdv ct us ks h1 h2 => match us, ks, h1, h2 with | [_, _, _], [_], _, _ => ⟨_, _, _, _, _, _, rfl, rfl, rfl⟩
  obtain ⟨mv, hk⟩ := FunD.kbinds0 (ps := p_lifted) F 3 ["most"] [] (fun vs _ zs => vs ++ zs) (by simp [He.DefD.kws, topDK]) (fun q hq => nomatch hq) (fun h1 _ h3 => h1.append h3) fun D doc pm an cdv ct us mv ws h1 h2 h3 => match us, mv, ws, h1, h2, h3 with | [_, _, _], [], [_], _, _, _ => rfl
  exact ⟨_, fd, ds, _, He.glo_ok X G (c.fact 41 rfl), F, hv, hb, hk⟩
theorem ats_of {K : PySem.W.Frag} {h : Heap} {mg : Str → Option Value} (X : K.In h) (G : h.Ns mainGlobals mg) (c : He.SaysD topFa topFn K) : Ats K mg := ⟨at_is_number X G c, at_is_side X G c, at_is_cell X G c, at_is_edge X G c, at_edge_from X G c, at_edge_crossed X G c, at_next_cell X G c, at_door_edge X G c, at_check_edges X G c, at_check_hall X G c, at_check_cells X G c, at_check_start X G c, at_first_standing X G c, at_door_edges X G c, at_swung_ways X G c, at_step_done X G c, at_moves_from X G c, at_may X G c, at_best_way X G c, at_walk X G c, at_paper X G c, at_shows X G c, at_turned X G c, at_mirrored X G c, at_shortest X G c, at_gentlest X G c, at_reached X G c, at_far X G c, at_still X G c, at_oneway X G c, at_lost X G c, at_written X G c, at_L_taken X G c, at_L_pair X G c, at_L_shut X G c, at_L_within X G c, at_L_hall X G c, at_L_odd X G c, at_law X G c, at_lifted X G c⟩
theorem iat_of {K : PySem.W.Frag} (c : He.SaysD topFa topFn K) : IAt K (He.ga K "Bench") "Bench.__init__" s_B_init p_B_init := by
  obtain ⟨fd, F⟩ := c.def_ 42 (d := dOfM "__init__" "Bench.__init__" s_B_init []) rfl
  exact ⟨_, fd, He.mkr_ok (c.fact 68 (f := .mkr "Bench") rfl), F, FunD.bindsN F fun _ _ _ _ _ _ us hl => match us, hl with | [_, _, _], _ => rfl⟩
theorem word_of {K : PySem.W.Frag} {h : Heap} {mg : Str → Option Value} (X : K.In h) (G : h.Ns mainGlobals mg) (c : He.SaysD topFa topFn K) : WordD K mg := by
  obtain ⟨fd, F⟩ := c.def_ 40 (d := dOf "_law_word" s_L_word) rfl
  obtain ⟨oc, od, dV, kV, doc, pm, an, cdv, ct, osl, e, lk, hc, hD, _⟩ := F.ex
  have g := He.glo_ok X G (c.fact 40 (f := .glo "_law_word") rfl)
  have hV : dV = .none := by
    rcases hD with ⟨_, q⟩ | ⟨q, _⟩
    · exact q
    · exact absurd rfl q
  subst hV
  subst e
  exact ⟨⟨_, oc, od, .none, kV, doc, pm, ct, an, cdv, osl, g, F.kp, lk, hc, .all fun us hl => match us, hl with | [_], _ => rfl⟩⟩
theorem txt_of {w : World} {K : PySem.W.Frag} {h : Heap} {mg : Str → Option Value} (X : K.In h) (G : h.Ns mainGlobals mg) (c : He.SaysD topFa topFn K) (hw : He.tupB K "WAYS" [.str "e", .str "n", .str "s", .str "w"] = true) : Txt K mg w (He.ga K "WAYS") (He.ga K "WAYS_TURNED") (He.ga K "WAYS_MIRRORED") :=
  { b_bool := He.free_ok X G (c.fact 42 rfl),
    b_enumerate := He.free_ok X G (c.fact 43 rfl),
    b_int := He.free_ok X G (c.fact 44 rfl),
    b_isinstance := He.free_ok X G (c.fact 45 rfl),
    b_len := He.free_ok X G (c.fact 46 rfl),
    b_list := He.free_ok X G (c.fact 47 rfl),
    b_max := He.free_ok X G (c.fact 48 rfl),
    b_min := He.free_ok X G (c.fact 49 rfl),
    b_range := He.free_ok X G (c.fact 50 rfl),
    b_sorted := He.free_ok X G (c.fact 51 rfl),
    b_str := He.free_ok X G (c.fact 52 rfl),
    b_tuple := He.free_ok X G (c.fact 53 rfl),
    b_zip := He.free_ok X G (c.fact 54 rfl),
    c_MOST_SIDE := He.int_ok X G (c.fact 57 rfl),
    c_MOST_WALLS := He.int_ok X G (c.fact 58 rfl),
    c_MOST_DOORS := He.int_ok X G (c.fact 59 rfl),
    c_MOST_WALKERS := He.int_ok X G (c.fact 60 rfl),
    c_LONGEST_NAME := He.int_ok X G (c.fact 61 rfl),
    c_MOST_STANDINGS := He.int_ok X G (c.fact 62 rfl),
    c_LETTERS := He.str_ok X G (c.fact 89 rfl),
    c_WAYS := He.glo_ok X G (c.fact 63 rfl),
    c_WAYS_TURNED := He.glo_ok X G (c.fact 64 rfl),
    c_WAYS_MIRRORED := He.glo_ok X G (c.fact 65 rfl),
    s_WAYS := fun H => He.tupB_ok hw H }
theorem exc_lk {K : PySem.W.Frag} {C CH : Addr} (h : excB K C CH = true) : ∃ nm q N bs bm sn sub ab col dd k0 k1 k2 k3 k5, K.lookup C = some (excClassObj nm q C N bs bm true sn sub ab col dd k0 k1 k2 k3 k5 "ValueError.__new__") ∧ PySem.HandSPX.refsVE bm = true := by
  unfold excB at h
  have q := (He.ba h).1
  clear h
  split at q
  · rename_i t dd cd sl ho
    obtain ⟨q0, qq⟩ := He.ba q
    clear q
    have q0 := of_decide_eq_true q0
    subst q0
    split at qq
    · rename_i C' bm k0 k1 k2 k3 n k5 hm hs
      obtain ⟨q1, q⟩ := He.ba qq
      obtain ⟨q2, q⟩ := He.ba q
      obtain ⟨q3, q⟩ := He.ba q
      obtain ⟨q4, q5⟩ := He.ba q
      have q1 := of_decide_eq_true q1
      have q2 := of_decide_eq_true q2
      subst q1 q2
      obtain ⟨nm, bs, mro, ns, qn, hd, sn, sub, ab, col, del⟩ := cd
      dsimp only at hm q3 q4
      have q3 : del = false := by cases del <;> first | rfl | cases q3
      subst hm q3 q4
      have hsl : sl = #[k0, k1, k2, k3, some (.builtin "ValueError.__new__"), k5] := by
        obtain ⟨l⟩ := sl
        simp only at hs
        rw [hs]
      subst hsl
      exact ⟨nm, qn, ns, bs, bm, sn, sub, ab, col, dd, k0, k1, k2, k3, k5, ho, q5⟩
    · cases qq
  · cases q
theorem eqB_ok {a b : Option Bool} (h : eqB a b = true) : a = b := of_decide_eq_true h
theorem oex_of {K : PySem.W.Frag} {C CH : Addr} (h : excB K C CH = true) : OexC K C := by
  have e := exc_lk h
  unfold excB at h
  obtain ⟨_, h⟩ := He.ba h
  obtain ⟨h1, h⟩ := He.ba h
  obtain ⟨h2, h⟩ := He.ba h
  obtain ⟨h3, h⟩ := He.ba h
  obtain ⟨h4, h⟩ := He.ba h
  exact ⟨e, He.eqO_ok h1, eqB_ok h2, of_decide_eq_true h3, h4⟩
theorem xf_of {K : PySem.W.Frag} {C CH : Addr} (h : excB K C CH = true) : XfC K C := by
  unfold excB at h
  obtain ⟨_, h⟩ := He.ba h
  obtain ⟨h1, h⟩ := He.ba h
  obtain ⟨h2, h⟩ := He.ba h
  obtain ⟨h3, h⟩ := He.ba h
  obtain ⟨h4, h⟩ := He.ba h
  exact xfB_ok (He.ba h).1
theorem exc_of {K : PySem.W.Frag} {C CH : Addr} (h : excB K C CH = true) : ExcC K C := by
  have x := xf_of h
  unfold excB at h
  obtain ⟨_, h⟩ := He.ba h
  obtain ⟨h1, h⟩ := He.ba h
  obtain ⟨h2, h⟩ := He.ba h
  obtain ⟨h3, h⟩ := He.ba h
  obtain ⟨h4, h⟩ := He.ba h
  obtain ⟨h5, h⟩ := He.ba h
  obtain ⟨h6, h⟩ := He.ba h
  obtain ⟨h7, h⟩ := He.ba h
  obtain ⟨h8, h⟩ := He.ba h
  obtain ⟨h9, h⟩ := He.ba h
  exact ⟨x.ga, x.gg, x.exC, x.hdC, He.eqO_ok h6, He.eqO_ok h7, eqB_ok h8, eqB_ok h9⟩
theorem kind_of {K : PySem.W.Frag} {C CH : Addr} {i : Nat} (hi : i < 12) (h : excB K C CH = true) (h2 : kindB K C i = true) : KindX K C CH (He.ga K) i := by
  unfold excB at h
  obtain ⟨_, h⟩ := He.ba h
  obtain ⟨_, h⟩ := He.ba h
  obtain ⟨_, h⟩ := He.ba h
  obtain ⟨_, h⟩ := He.ba h
  obtain ⟨_, h⟩ := He.ba h
  obtain ⟨_, h⟩ := He.ba h
  obtain ⟨_, h⟩ := He.ba h
  obtain ⟨_, h⟩ := He.ba h
  obtain ⟨_, h⟩ := He.ba h
  obtain ⟨_, h⟩ := He.ba h
  obtain ⟨ha, hb⟩ := He.ba h
  refine ⟨hi, fun j x hx => ?_, eqB_ok hb, eqB_ok ha⟩
  unfold kindB at h2
  exact eqB_ok (List.all_eq_true.mp h2 (x, j) (List.mem_zipIdx_iff_getElem?.mpr hx))
theorem words_BadHall {K : PySem.W.Frag} {h : Heap} {mg : Str → Option Value} (X : K.In h) (G : h.Ns mainGlobals mg) (c : He.SaysD topFa topFn K) (e : excB K (He.ga K "BadHall") (He.ga K "HallError") = true) : WordS K mg (He.ga K "BadHall") (He.ga K "HallError") (He.ga K) :=
  { xc := exc_of e,
    xf := xf_of e,
    hall := He.glo_ok X G (c.fact 66 rfl),
    b_ValueError := He.free_ok X G (c.fact 55 rfl),
    n_done := He.eqO_ok (c.fact 81 (f := .noat "BadHall" "done") rfl),
    n_number := He.eqO_ok (c.fact 82 (f := .noat "BadHall" "number") rfl),
    n_part := He.eqO_ok (c.fact 83 (f := .noat "BadHall" "part") rfl),
    n_row := He.eqO_ok (c.fact 84 (f := .noat "BadHall" "row") rfl),
    c_BadCells := He.glo_ok X G (c.fact 69 rfl),
    c_BadCount := He.glo_ok X G (c.fact 70 rfl),
    c_BadGoal := He.glo_ok X G (c.fact 71 rfl),
    c_BadHall := He.glo_ok X G (c.fact 72 rfl),
    c_BadName := He.glo_ok X G (c.fact 73 rfl),
    c_BadPaper := He.glo_ok X G (c.fact 74 rfl),
    c_BadStep := He.glo_ok X G (c.fact 75 rfl),
    c_BadText := He.glo_ok X G (c.fact 76 rfl),
    c_Halted := He.glo_ok X G (c.fact 77 rfl),
    c_Meets := He.glo_ok X G (c.fact 78 rfl),
    c_NoPoint := He.glo_ok X G (c.fact 79 rfl),
    c_TooMany := He.glo_ok X G (c.fact 80 rfl) }
/-! the error's __init__ -/
theorem fdIn_ok {K : PySem.W.Frag} {f : Addr} {fd : FuncData} (h : fdIn K f = some fd) : ∃ oc od osl, K.lookup f = some ⟨oc, od, .func fd, osl⟩ := by
  unfold fdIn at h
  split at h
  · rename_i oc od fd' osl q
    cases h
    exact ⟨oc, od, osl, q⟩
  · cases h
def initV (K : PySem.W.Frag) (nm q : Str) (st : Stmt) : Option (Str × Str × Arguments × FuncBody × Scope × Addr × List (Str × Addr) × Addr × Value × Value) := some ("__init__", q, defArgs st, .stmts (defBody st), defScope st, mainGlobals, [("__class__", cellAt K nm)], builtinsNs, .none, .ref (codeAt K (iAt K nm)))
theorem sup_BadHall {P : Program} {K : PySem.W.Frag} {C CH : Addr} (e : excB K C CH = true) (i : initB P.main.file K "BadHall" "BadHall.__init__" C = true) (v : initW K "BadHall" = initV K "BadHall" "BadHall.__init__" s_initH) (ht : (P.main.scope.names.lookup ("super" : Str)).isSome = false) :
    ∃ fd, SupF P K C (iAt K "BadHall") (cellAt K "BadHall") (codeAt K (iAt K "BadHall")) "__init__" "BadHall.__init__" (defArgs s_initH) (defBody s_initH) (defScope s_initH) fd ∧ Binds K fd ["self", "part", "number"] [] ∧ PySem.W.findIn K (.ref C) "__init__" = some (some (.ref (iAt K "BadHall"))) ∧ PySem.W.typeIn K (.ref (iAt K "BadHall")) = some (.type "function") := by
  unfold initW initV at v
  obtain ⟨fd, hf, hv⟩ := Option.map_eq_some_iff.mp v
  obtain ⟨oc, od, osl, lk⟩ := fdIn_ok hf
  obtain ⟨n1, n2, n3, n4, n5, n6, n7, n8, n9, n10, n11, n12, n13, n14, n15⟩ := fd
  simp only [Prod.mk.injEq] at hv
  obtain ⟨h1, h2, h3, h4, h5, h6, h7, h8, h9, h10⟩ := hv
  unfold initB at i
  obtain ⟨i1, i⟩ := He.ba i
  obtain ⟨i2, i⟩ := He.ba i
  obtain ⟨i3, i⟩ := He.ba i
  obtain ⟨i4, i⟩ := He.ba i
  obtain ⟨i5, i⟩ := He.ba i
  obtain ⟨i6, i⟩ := He.ba i
  obtain ⟨i7, i⟩ := He.ba i
  obtain ⟨i8, i⟩ := He.ba i
  obtain ⟨i9, i10⟩ := He.ba i
  clear v hf
  generalize hcc : cellAt K "BadHall" = cc at *
  generalize hcd : codeAt K (iAt K "BadHall") = cda at *
  generalize iAt K "BadHall" = fI at *
  subst h1 h2 h3 h4 h5 h6 h7 h8 h9 h10
  refine ⟨_, ⟨oex_of e, ⟨oc, od, osl, .none, _, _, _, _, _, rfl, lk⟩, i3, ?_, ?_, Option.isSome_iff_exists.mp i6, ht, eqB_ok i7, He.eqO_ok i8, He.eqO_ok i9, eqB_ok i10, by rfl, by rfl, ⟨_, rfl, rfl⟩⟩, .all fun us hl => match us, hl with | [_, _, _], _ => rfl, He.eqO_ok i1, of_decide_eq_true i2⟩
  · split at i4
    · rename_i a b vs d q
      split at i4
      · rename_i f t q2
        exact ⟨a, b, d, vs, f, t, q, q2, i4⟩
      · cases i4
    · cases i4
  · split at i5
    · rename_i a b C' d q
      have z := of_decide_eq_true i5
      rw [z] at q
      exact ⟨a, b, d, q⟩
    · cases i5
theorem sup_BadCells {P : Program} {K : PySem.W.Frag} {C CH : Addr} (e : excB K C CH = true) (i : initB P.main.file K "BadCells" "BadCells.__init__" C = true) (v : initW K "BadCells" = initV K "BadCells" "BadCells.__init__" s_initC) (ht : (P.main.scope.names.lookup ("super" : Str)).isSome = false) :
    ∃ fd, SupF P K C (iAt K "BadCells") (cellAt K "BadCells") (codeAt K (iAt K "BadCells")) "__init__" "BadCells.__init__" (defArgs s_initC) (defBody s_initC) (defScope s_initC) fd ∧ Binds K fd ["self", "number"] [] ∧ PySem.W.findIn K (.ref C) "__init__" = some (some (.ref (iAt K "BadCells"))) ∧ PySem.W.typeIn K (.ref (iAt K "BadCells")) = some (.type "function") := by
  unfold initW initV at v
  obtain ⟨fd, hf, hv⟩ := Option.map_eq_some_iff.mp v
  obtain ⟨oc, od, osl, lk⟩ := fdIn_ok hf
  obtain ⟨n1, n2, n3, n4, n5, n6, n7, n8, n9, n10, n11, n12, n13, n14, n15⟩ := fd
  simp only [Prod.mk.injEq] at hv
  obtain ⟨h1, h2, h3, h4, h5, h6, h7, h8, h9, h10⟩ := hv
  unfold initB at i
  obtain ⟨i1, i⟩ := He.ba i
  obtain ⟨i2, i⟩ := He.ba i
  obtain ⟨i3, i⟩ := He.ba i
  obtain ⟨i4, i⟩ := He.ba i
  obtain ⟨i5, i⟩ := He.ba i
  obtain ⟨i6, i⟩ := He.ba i
  obtain ⟨i7, i⟩ := He.ba i
  obtain ⟨i8, i⟩ := He.ba i
  obtain ⟨i9, i10⟩ := He.ba i
  clear v hf
  generalize hcc : cellAt K "BadCells" = cc at *
  generalize hcd : codeAt K (iAt K "BadCells") = cda at *
  generalize iAt K "BadCells" = fI at *
  subst h1 h2 h3 h4 h5 h6 h7 h8 h9 h10
  refine ⟨_, ⟨oex_of e, ⟨oc, od, osl, .none, _, _, _, _, _, rfl, lk⟩, i3, ?_, ?_, Option.isSome_iff_exists.mp i6, ht, eqB_ok i7, He.eqO_ok i8, He.eqO_ok i9, eqB_ok i10, by rfl, by rfl, ⟨_, rfl, rfl⟩⟩, .all fun us hl => match us, hl with | [_, _], _ => rfl, He.eqO_ok i1, of_decide_eq_true i2⟩
  · split at i4
    · rename_i a b vs d q
      split at i4
      · rename_i f t q2
        exact ⟨a, b, d, vs, f, t, q, q2, i4⟩
      · cases i4
    · cases i4
  · split at i5
    · rename_i a b C' d q
      have z := of_decide_eq_true i5
      rw [z] at q
      exact ⟨a, b, d, q⟩
    · cases i5
theorem exs_BadHall {P : Program} {w : World} {base : Heap} {K : PySem.W.Frag} {h : Heap} {mg : Str → Option Value} (X : K.In h) (G : h.Ns mainGlobals mg) (c : He.SaysD topFa topFn K) (e : excB K (He.ga K "BadHall") (He.ga K "HallError") = true) (i : initB P.main.file K "BadHall" "BadHall.__init__" (He.ga K "BadHall") = true) (v : initW K "BadHall" = initV K "BadHall" "BadHall.__init__" s_initH) (ht : (P.main.scope.names.lookup ("super" : Str)).isSome = false) :
    ExS P w K mg base "BadHall" (He.ga K "BadHall") ["self", "part", "number"] (sp_initH (He.ga K "BadHall")) := by
  obtain ⟨fd, S, b, i1, i2⟩ := sup_BadHall e i v ht
  exact ⟨oex_of e, ⟨_, fd, i1, i2, ok_initH S (He.eqO_ok (c.fact 83 (f := .noat "BadHall" "part") rfl)) (He.eqO_ok (c.fact 82 (f := .noat "BadHall" "number") rfl)) (He.free_ok X G (c.fact 56 (f := .free "super") rfl)), b⟩, He.glo_ok X G (c.fact 72 (f := .glo "BadHall") rfl)⟩
theorem exs_BadCells {P : Program} {w : World} {base : Heap} {K : PySem.W.Frag} {h : Heap} {mg : Str → Option Value} (X : K.In h) (G : h.Ns mainGlobals mg) (c : He.SaysD topFa topFn K) (e : excB K (He.ga K "BadCells") (He.ga K "HallError") = true) (i : initB P.main.file K "BadCells" "BadCells.__init__" (He.ga K "BadCells") = true) (v : initW K "BadCells" = initV K "BadCells" "BadCells.__init__" s_initC) (ht : (P.main.scope.names.lookup ("super" : Str)).isSome = false) :
    ExS P w K mg base "BadCells" (He.ga K "BadCells") ["self", "number"] (sp_initC (He.ga K "BadCells")) := by
  obtain ⟨fd, S, b, i1, i2⟩ := sup_BadCells e i v ht
  exact ⟨oex_of e, ⟨_, fd, i1, i2, ok_initC S (He.eqO_ok (c.fact 86 (f := .noat "BadCells" "number") rfl)) (He.free_ok X G (c.fact 56 (f := .free "super") rfl)), b⟩, He.glo_ok X G (c.fact 69 (f := .glo "BadCells") rfl)⟩
theorem tab_parts {K : PySem.W.Frag} {x : Str} {c PT : Addr} (h : PySem.W.tabIn K x = some (c, PT)) : ∃ f oc od fd osl e dd vs sl, PySem.W.nsIn K mainGlobals x = some (some (.ref f)) ∧ K.lookup f = some ⟨oc, od, .func fd, osl⟩ ∧ fd.code = .ref c ∧ K.lookup c = some ⟨e, dd, .fields vs, sl⟩ ∧ vs[11]? = some (.ref PT) := by
  unfold PySem.W.tabIn at h
  split at h
  · rename_i f hf
    split at h
    · rename_i oc od fd osl hfo
      split at h
      · rename_i c₂ hc
        split at h
        · rename_i e dd vs sl hco
          split at h
          · rename_i P₂ hv
            cases h
            exact ⟨f, oc, od, fd, osl, e, dd, vs, sl, hf, hfo, hc, hco, hv⟩
          · cases h
        · cases h
      · cases h
    · cases h
  · cases h
/-- where a def with lambdas stands -/
theorem atC_of {K : PySem.W.Frag} {h : Heap} {mg : Str → Option Value} {x : Str} {st : Stmt} {ps : List Str} (X : K.In h) (G : h.Ns mainGlobals mg) (c : He.SaysD topFa topFn K) (i j : Nat) (hd : topFn[i]? = some (dOf x st)) (hf : topFa[j]? = some (.glo x)) (hl : codeB K x = true)
    (own : ∀ f, mg x = some (.ref f) → OwnTab K f h) (hb : ∀ (dV kV doc pm cdv ct : Value) (an : Option Addr) (us : List Value), us.length = ps.length → bindArgs (PySem.W.fnOf x x (defArgs st) (defBody st) (defScope st) .none kV doc pm an cdv ct) ⟨us, []⟩ = pure (ps.zip us)) :
    AtC K mg x st ps (codeOf K x).1 ∧ h.get? (codeOf K x).2 = some { cls := .none, data := .fields #[] } ∧ PySem.W.CodeHd h (codeOf K x).1 (codeOf K x).2 ∧ K.lookup (codeOf K x).2 = none := by
  obtain ⟨fd, F⟩ := c.def_ i (d := dOf x st) hd
  obtain ⟨oc, od, dV, kV, doc, pm, an, cdv, ct, osl, ef, lk, hc, hD, _⟩ := F.ex
  have g := He.glo_ok X G (c.fact j (f := .glo x) hf)
  have hV : dV = .none := by
    rcases hD with ⟨_, q⟩ | ⟨q, _⟩
    · exact q
    · exact absurd rfl q
  subst hV
  subst ef
  unfold codeB at hl
  obtain ⟨l1, hl⟩ := He.ba hl
  obtain ⟨l2, l3⟩ := He.ba hl
  obtain ⟨⟨cL, PT⟩, ht2⟩ := Option.isSome_iff_exists.mp l1
  have hcp : codeOf K x = (cL, PT) := by
    unfold codeOf
    rw [ht2]
  rw [hcp] at l2 l3
  rw [hcp]
  obtain ⟨f, oc2, od2, fd2, osl2, e2, dd2, vs2, sl2, q1, q2, q3, q4, q5⟩ := tab_parts ht2
  have q6 := PySem.W.mg_of X G q1
  rw [g] at q6
  cases q6
  have q7 := lk
  rw [show (He.fAd K (dOf x st).at_) = He.ga K x from rfl] at q7
  rw [q2] at q7
  cases q7
  cases q3
  exact ⟨⟨_, oc, od, kV, doc, pm, an, ct, osl, g, F.kp, q2, hc, .all fun us hl => hb .none kV doc pm _ ct an us hl⟩, own _ g cL PT _ _ _ _ _ _ q2 rfl rfl q4 q5, PySem.W.codeHd_of_K X l2, Option.isNone_iff_eq_none.mp l3⟩
theorem law_at {l : PySem.W.OpenLaw} {w : World} {K : PySem.W.Frag} {h : Heap} {mg : Str → Option Value} {fa : Addr} (X : K.In h) (G : h.Ns mainGlobals mg) (hmg : mg "law" = some (.ref fa)) (own : ∀ nm ∈ (["law", "_law_works"] : List Str), ∀ f, mg nm = some (.ref f) → OwnTab K f h)
    (c : He.SaysD topFa topFn K) (hw : He.tupB K "WAYS" [.str "e", .str "n", .str "s", .str "w"] = true) (eBadHall : excB K (He.ga K "BadHall") (He.ga K "HallError") = true) (kBadHall : kindB K (He.ga K "BadHall") 4 = true) (iBadHall : initB l.prog.main.file K "BadHall" "BadHall.__init__" (He.ga K "BadHall") = true) (vBadHall : initW K "BadHall" = initV K "BadHall" "BadHall.__init__" s_initH) (eBadCells : excB K (He.ga K "BadCells") (He.ga K "HallError") = true) (kBadCells : kindB K (He.ga K "BadCells") 0 = true) (iBadCells : initB l.prog.main.file K "BadCells" "BadCells.__init__" (He.ga K "BadCells") = true) (vBadCells : initW K "BadCells" = initV K "BadCells" "BadCells.__init__" s_initC) (ht : (l.prog.main.scope.names.lookup ("super" : Str)).isSome = false) (hl1 : codeB K "law" = true) (hl2 : codeB K "_law_works" = true) (hne : decide ((codeOf K "law").2 ≠ (codeOf K "_law_works").2) = true) :
    LawAtS l w K CX0 12 63 "_law_script" mg fa h := by
  have hne := of_decide_eq_true hne
  obtain ⟨A1, t1, hd1, n1⟩ := atC_of (ps := p_law) X G c 38 38 rfl rfl hl1 (own _ (.head _)) fun _ _ _ _ _ _ _ us hl => match us, hl with | [_], _ => rfl
  obtain ⟨A2, t2, hd2, n2⟩ := atC_of (ps := p_L_works) X G c 39 39 rfl rfl hl2 (own _ (.tail _ (.head _))) fun _ _ _ _ _ _ _ us hl => match us, hl with | [_], _ => rfl
  obtain ⟨f, oc, od, kV, doc, pm, an, ct, osl, g1, g2, g3, g4, g5⟩ := A1.ex
  rw [hmg] at g1
  cases g1
  generalize codeOf K "law" = cp1 at *
  generalize codeOf K "_law_works" = cp2 at *
  obtain ⟨cL, PT⟩ := cp1
  obtain ⟨cR, PR⟩ := cp2
  refine ⟨PySem.W.fnOf "law" "law" (defArgs s_law) (defBody s_law) (defScope s_law) .none kV doc pm an (.ref cL) ct, [(cL, PT), (cR, PR)], sp_law K (lawT PT PR), fun p hp => ?_, fun p hp => ?_, fun p hp => ?_, fun s u => .of_eq rfl, ?_, fun base KB GB TB => ?_⟩
  · simp only [List.mem_cons, List.not_mem_nil, or_false] at hp
    rcases hp with rfl | rfl
    · exact t1
    · exact t2
  · simp only [List.mem_cons, List.not_mem_nil, or_false] at hp
    rcases hp with rfl | rfl
    · exact n1
    · exact n2
  · simp only [List.mem_cons, List.not_mem_nil, or_false] at hp
    rcases hp with rfl | rfl
    · exact hd1
    · exact hd2
  · intro H a ns hn hz hp hS
    refine ⟨a, ns, rfl, hS, fun p hq => ?_, fun _ => rfl⟩
    simp only [List.mem_cons, List.not_mem_nil, or_false] at hq
    rcases hq with rfl | rfl
    · exact TabS.nil (hp (cL, PT) (.head _))
    · exact TabS.nil (hp (cR, PR) (.tail _ (.head _)))
  · have T := txt_of (w := w) KB GB c hw
    have XH := exs_BadHall (P := l.prog) (w := w) (base := base) KB GB c eBadHall iBadHall vBadHall ht
    have XC := exs_BadCells (P := l.prog) (w := w) (base := base) KB GB c eBadCells iBadCells vBadCells ht
    exact ok_law T (ats_of KB GB c) XH XC (iat_of c) (He.glo_ok KB GB (c.fact 67 (f := .glo "Bench") rfl)) (words_BadHall KB GB c eBadHall).hall ⟨words_BadHall KB GB c eBadHall, kind_of (by decide) eBadHall kBadHall⟩ (word_of KB GB c) hne (TB _ (.head _)) (TB _ (.tail _ (.head _))) A2 g3 g4
end Pd
/-! Last01 -/
set_option Elab.async false
set_option linter.all false
set_option maxRecDepth 100000
set_option maxHeartbeats 0
/-! the program's top run in the kernel, whole: what it leaves is told as facts -/
namespace Pd
open PySem PySem.Spec PyProof.Rows L2 LamX
theorem obsI_ok {K : PySem.W.Frag} {nm q : Str} {st : Stmt} (h : obsI K nm = valI q st) : initW K nm = initV K nm q st := by
  unfold obsI valI at h
  obtain ⟨t, ht, e⟩ := Option.map_eq_some_iff.mp h
  obtain ⟨t1, t2, t3, t4, t5, t6, t7, t8, t9, t10⟩ := t
  simp only [Prod.mk.injEq] at e
  obtain ⟨e1, e2, e3, e4, e5, e6⟩ := e
  obtain ⟨f1, e6⟩ := He.ba e6
  obtain ⟨f2, e6⟩ := He.ba e6
  obtain ⟨f3, e6⟩ := He.ba e6
  obtain ⟨f4, f5⟩ := He.ba e6
  have g1 := of_decide_eq_true f1
  have g2 := of_decide_eq_true f2
  have g3 := of_decide_eq_true f3
  have g4 := of_decide_eq_true f4
  have g5 := of_decide_eq_true f5
  rw [ht, e1, e2, e3, e4, e5, g1, g2, g3, g4, g5] <;> rfl
def obsK (K : PySem.W.Frag) : AlQ := (He.obsD topFa topFn K, obsM K)
def hk : PySem.W.Hook where
  α := AlQ
  obs := fun s => obsK (He.frT s.heap.get? (List.range 900))
  val := fun _ => valQ
  says := fun _ h => ∃ K : PySem.W.Frag, K.In h ∧ obsK K = valQ
  of := fun _ _ e => ⟨_, He.frT_in, e⟩
  keeps := fun _ _ _ ⟨K, hK, c⟩ k => ⟨K, PySem.W.Frag.In.keeps hK k, c⟩
def ob (s : PySem.W.SharedT) : AlQ := obsK (He.frT (HandSHeadRun.getT s) (List.range 900))
theorem ob_eq (s : PySem.W.SharedT) : ob s = hk.obs s.abs := by
  show obsK (He.frT (HandSHeadRun.getT s) (List.range 900)) = obsK (He.frT s.abs.heap.get? (List.range 900))
  rw [funext (HandSHeadRun.getT_eq s)]
/-- the end, with the tables of some defs known -/
theorem walk_ofOwn3 {l : PySem.W.OpenLaw} {n k : Nat} {q : Program} {loose : List Str} {XP : (Str → Option Value) → Heap → Prop} {YP : World → Heap → Prop} {d : DefRec} {CX : World → CXT} {x : Str} (nms : List Str)
    (hn : l.most = some n) (hn2 : n ≤ sizeLine) (hdf : d.params.defaults = []) (hr : Room k callerA) (hrec : (nms.all fun nm => (recsOf q).any fun e => e.name == nm) = true)
    (F : ∀ (w : World) (mg : Str → Option Value) (fa : Addr) (h : Heap), YP w h → h.Ns mainGlobals mg → mg d.name = some (.ref fa) → (∀ K : PySem.W.Frag, K.In h → ∀ nm ∈ nms, ∀ f, mg nm = some (.ref f) → OwnTab K f h) → ∃ K : PySem.W.Frag, K.In h ∧ LawAtS l w K (CX w) k n x mg fa h)
    (hCX : ∀ (w : World) (H : Hp) (s : Shared) (e : Value) (s' : Shared), CX w [] H s (fun _ _ _ => False) e s' → False) :
    PySem.W.WalkO q loose XP YP l.row.toRowW d [] (fun f vs => PySem.call f vs) := by
  refine Att.attach_callB hn hdf fun w s₀ s₁ mg mb fa o pm cd doc a vs ns G Y ho hd hcd hmg hobj hints hlen hbits hg => ?_
  have own : ∀ K : PySem.W.Frag, K.In s₁.heap → ∀ nm ∈ nms, ∀ f, mg nm = some (.ref f) → OwnTab K f s₁.heap := fun K KX nm hnm f hf c P o1 fd1 e dd vs1 sl k1 k2 k3 k4 k5 => by
    obtain ⟨dL, hm, hn1⟩ := List.any_eq_true.mp (List.all_eq_true.mp hrec nm hnm)
    have hn2 : dL.name = nm := beq_iff_eq.mp hn1
    obtain ⟨a', o', fd', c', P', h1, h2, h3, h4, h5, h6⟩ := G.T.tab dL hm
    rw [hn2, hf] at h1
    cases h1
    rw [KX _ _ k1] at h2
    cases h2
    rw [k2] at h3
    cases h3
    rw [k3] at h4
    cases h4
    obtain ⟨⟨oc, vc, e1, _, e3, e4⟩, hP⟩ := h6
    rw [KX _ _ k4] at e1
    cases e1
    cases e3
    rw [k5] at e4
    cases e4
    exact hP
  obtain ⟨K, KX, fd, cs, sp, hT, nT, C, hb, hsp, hF⟩ := F w mg fa _ Y G.T.g hmg own
  exact law_callTs KX G.T.g G.T.b G.T.builtins G.T.nolimit hg hT nT C G.T.bmain hobj hints (Nat.le_trans hlen hn2) hr hF hb (fun H hH hS => hsp H a ns hlen hbits hH hS) fun H e s' => hCX w H s₁ e s'
theorem joined {α β γ δ ε : Type} {z : Option α} {f : α → β} {g : α → γ} {h : α → δ} {k : α → ε} {b : β} {c : γ} {d : δ} {e : ε} (h1 : z.map f = some b) (h2 : z.map g = some c) (h3 : z.map h = some d) (h4 : z.map k = some e) : z.map (fun x => (f x, g x, (h x, k x))) = some (b, c, (d, e)) := by
  cases z with
  | none => cases h1
  | some x =>
    have e1 : f x = b := Option.some.inj h1
    have e2 : g x = c := Option.some.inj h2
    have e3 : h x = d := Option.some.inj h3
    have e4 : k x = e := Option.some.inj h4
    show some (f x, g x, (h x, k x)) = _
    rw [e1, e2, e3, e4]
theorem run (w : World) : HandSHeadRun.RunEqI RR qv hk ob 20000 loose w :=
  joined (z := atEnd w) (PySem.W.byRow2 "special-get-raises" (P := LooksA) runA0 runA1 w) (PySem.W.byRow2 "special-get-raises" (P := LooksC) runC0 runC1 w) (PySem.W.byRow2 "special-get-raises" (P := LooksB) runB0 runB1 w) (PySem.W.byRow2 "special-get-raises" (P := LooksD) runD0 runD1 w)
end Pd
open PySem PySem.W PySem.Calls PyProof.Rows
theorem PySem.Challenge.cw_hingehall_k01_halls_refused_holds : PySem.Challenge.rw_hingehall_k01_halls_refused.Holds := by
  w_on; o_law
  refine HandSHeadRun.head_imp (r := OpenLaw.row PySem.Challenge.rw_hingehall_k01_halls_refused) (q := Pd.qv) (H := Pd.hk) (ob := Pd.ob) (M := 20000) (loose := Pd.loose) (d := HandSHeadRun.topDef (OpenLaw.row PySem.Challenge.rw_hingehall_k01_halls_refused).prog 105) (kwd := []) Pd.ob_eq Pd.run
    (by kernel_rfl) (by kernel_rfl) (by kernel_rfl) (by rfl) (by first | assumption | decide +kernel) (by decide +kernel) ⟨rfl, rfl, rfl, rfl, rfl, by decide +kernel⟩ ?hw ?hc
  case hw => w_witness2
  case hc =>
    refine Pd.walk_ofOwn3 (l := PySem.Challenge.rw_hingehall_k01_halls_refused) (n := 63) (k := 12) (x := "_law_script") (CX := fun _ => L2.CX0) ["law", "_law_works"] rfl (by decide) (by kernel_rfl) ⟨rfl, by decide, by decide⟩ (by decide +kernel) ?F (fun _ _ _ _ _ z => z)
    intro w mg fa h Y G hmg0 own
    have hmg : mg ("law" : PySem.Str) = some (.ref fa) := by
      have e : (HandSHeadRun.topDef (OpenLaw.row PySem.Challenge.rw_hingehall_k01_halls_refused).prog 105).name = ("law" : PySem.Str) := by kernel_rfl
      rw [← e]
      exact hmg0
    obtain ⟨K, KX, c⟩ := Y
    have c1 : He.obsD Pd.topFa Pd.topFn K = He.valD Pd.topFn := congrArg (fun z : Pd.AlQ => z.1) c
    have c2 : Pd.obsI K "BadHall" = Pd.valI "BadHall.__init__" Pd.s_initH := congrArg (fun z : Pd.AlQ => z.2.1.1) c
    have c3 : Pd.obsI K "BadCells" = Pd.valI "BadCells.__init__" Pd.s_initC := congrArg (fun z : Pd.AlQ => z.2.1.2) c
    have c4 : (_ && (_ && (_ && (_ && (_ && (_ && (_ && (_ && (_ && _))))))))) = true := congrArg (fun z : Pd.AlQ => z.2.2) c
    obtain ⟨b1, c4⟩ := He.ba c4
    obtain ⟨b2, c4⟩ := He.ba c4
    obtain ⟨b3, c4⟩ := He.ba c4
    obtain ⟨b4, c4⟩ := He.ba c4
    obtain ⟨b5, c4⟩ := He.ba c4
    obtain ⟨b6, c4⟩ := He.ba c4
    obtain ⟨b7, c4⟩ := He.ba c4
    obtain ⟨b8, c4⟩ := He.ba c4
    obtain ⟨b9, b10⟩ := He.ba c4
    exact ⟨K, KX, @Pd.law_at ⟨w⟩ _ _ _ _ _ _ KX G hmg (own K KX) c1 b1 b2 b3 b4 (Pd.obsI_ok c2) b5 b6 b7 (Pd.obsI_ok c3) rfl b8 b9 b10⟩

