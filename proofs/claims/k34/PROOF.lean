import PyProof.Rows.All
import Wide.All
import OpenK.AllK
import Wide.FinOn
import HandS.ForMost
import HandS.Walk
import PyProof.ReprRoads
import HandS.TupAny
import HandS.IsInst
import HandS.SortInts
import KE.GoesMore
import HandS.Zip
import KE.GoesEnum
import HandS.Style
import HandS.TupLen
import HandS.Set
import HandS.SetFor
import HandS.Strs
import HandS.DictComp
import HandS.ForExc
import HandS.TryOnly
import PyProof.ExcBaseAll.ValueError
import KE.KDictZip
import KE.KDictKeyed
import KE.KDictDisplayH
import HandS.TupMul
import HandS.SortRule
import HandS.Defaults
import HandS.TupSets
import HandS.Star
import HandS.Conv
import HandS.Deep
import HandS.Iter
import HandS.HotCalls
import HandS.ExcIs
import HandS.Lambda
import KE.SortUse
import KE.KNestM
import HandS.Property
import HandS.MethStar
import OpenK.KOps
import OpenK.KMeth
import KE.KOpsOwn
import KE.KSuper
import KE.KSuperObj
import KE.KStar
import HandS.Nested
import HandS.FStr
import KE.RegKSuper
import HandS.GenList
import HandS.GenYield
import HandS.GenCall
import PyProof.ReprNest
import HandS.ExcInit
import KE.KExcSuper
import HandS.Base
import HandS.Call
import HandS.Exc
import HandS.Head0
import HandS.Head1
import HandS.Head2
import HandS.HeadHook1
import HandS.HeadHook2
import HandS.HeadHook4
import HandS.ExcField
import HandS.More
import PyProof.EqKinds
import HandS.Codes
import HandS.Text
import HandS.StrSplit
import PyProof.StrOps2
import PyProof.StrLawsIn
import HandS.Replace
import HandS.ReplaceLit
import PyProof.FitsReplace
import PySem.Challenge.RW_blankcells_k34_texts_of_rules
set_option Elab.async false
set_option linter.all false
set_option maxRecDepth 100000
set_option maxHeartbeats 4000000
namespace B
end B
namespace Dw
end Dw
namespace HN
end HN
namespace HT
end HT
namespace Hq
end Hq
namespace L2
end L2
namespace L2H
end L2H
namespace PySem
end PySem
namespace SrtT
end SrtT
section
open PySem PySem.Spec PyProof.Rows L2 He Dw
namespace Hq
abbrev FnQ : Type := Option (Str × Str × Arguments × FuncBody × Scope × Addr × List Str × Addr)
end Hq
end
section
open PySem PySem.Spec PyProof.Rows L2 He Dw
namespace Hq
def fnQ (K : PySem.W.Frag) (f : Addr) : FnQ := match K.lookup f with
  | some ⟨_, _, .func fd, _⟩ => some (fd.name, fd.qualname, fd.params, fd.body, fd.scope, fd.globals, fd.closure.map (·.1), fd.builtins)
  | _ => none
end Hq
end
section
open PySem PySem.Spec PyProof.Rows L2 He Dw
namespace Hq
structure DefQ where
  at_ : PySem.W.Frag → Addr
  name : Str
  qual : Str
  st : Stmt
  clo : List Str
end Hq
end
section
open PySem PySem.Spec PyProof.Rows L2 He Dw
namespace Hq
def DefQ.val (d : DefQ) : FnQ := some (d.name, d.qual, defArgs d.st, .stmts (defBody d.st), defScope d.st, mainGlobals, d.clo, builtinsNs)
end Hq
end
section
open PySem PySem.Spec PyProof.Rows L2 He Dw
namespace Hq
def tokO : Option (Option Value) → Tok
  | some (some (.int _ t)) => t
  | some (some (.str _ t)) => t
  | _ => 0
end Hq
end
section
open PySem PySem.Spec PyProof.Rows L2 He Dw
namespace Hq
def nonB : Value → Bool
  | .none => true
  | _ => false
end Hq
end
section
open PySem PySem.Spec PyProof.Rows L2 He Dw
namespace Hq
def mdB (K : PySem.W.Frag) (f : Addr) (q : Str) : Bool := PySem.W.keepIn K (.ref f) && match K.lookup f with
  | some ⟨_, _, .func fd, _⟩ => PySem.W.codeIn K fd.code q && nonB fd.defaults
  | _ => false
end Hq
end
section
open PySem PySem.Spec PyProof.Rows L2 He Dw
namespace Hq
abbrev Fq : Type := PySem.W.Frag → Bool
end Hq
end
section
open PySem PySem.Spec PyProof.Rows L2 He Dw
namespace Hq
abbrev AlQ : Type := Bool × List (List FnQ)
end Hq
end
section
open PySem PySem.Spec PyProof.Rows L2 He Dw
namespace Hq
def obsQ (fs : List (List Fq)) (ds : List (List DefQ)) (K : PySem.W.Frag) : AlQ := (fs.all fun l => l.all fun f => f K, ds.map fun l => l.map fun d => fnQ K (d.at_ K))
end Hq
end
section
open PySem PySem.Spec PyProof.Rows L2 He Dw
namespace Hq
def valQ (ds : List (List DefQ)) : AlQ := (true, ds.map fun l => l.map DefQ.val)
end Hq
end
section
open PySem PySem.Spec PyProof.Rows L2 He Dw
namespace Hq
def SaysQ (fs : List (List Fq)) (ds : List (List DefQ)) (K : PySem.W.Frag) : Prop := obsQ fs ds K = valQ ds
end Hq
end
section
open PySem PySem.Spec PyProof.Rows L2 He Dw
open LamX (Tabs TabS CodeO TabB)
namespace Hq
def cdAd (K : PySem.W.Frag) (f : Addr) : Addr := match K.lookup f with
  | some ⟨_, _, .func fd, _⟩ => (match fd.code with
    | .ref c => c
    | _ => 0)
  | _ => 0
end Hq
end
section
open PySem PySem.Spec PyProof.Rows L2 He Dw
open LamX (Tabs TabS CodeO TabB)
namespace Hq
abbrev TabQ : Type := PySem.W.Frag → Addr × Addr
end Hq
end
section
open PySem PySem.Spec PyProof.Rows L2 He Dw
open LamX (Tabs TabS CodeO TabB)
namespace Hq
def tbAd (f : PySem.W.Frag → Addr) : TabQ := fun K => (cdAd K (f K), tabOf K (cdAd K (f K)))
end Hq
end
section
open PySem PySem.Spec PyProof.Rows L2 He Dw
open LamX (Tabs TabS CodeO TabB)
namespace Hq
def tabB (K : PySem.W.Frag) (g : Addr → Option Obj) (p : Addr × Addr) : Bool := PySem.W.codeHdIn K p.1 p.2 && ((K.lookup p.2).isNone && (match g p.2 with
  | some o => emptyTab o
  | none => false))
end Hq
end
section
open PySem PySem.Spec PyProof.Rows L2 He Dw
open LamX (Tabs TabS CodeO TabB)
namespace Hq
theorem tabB_ok {K : PySem.W.Frag} {g : Addr → Option Obj} {p : Addr × Addr} (h : tabB K g p = true) : PySem.W.codeHdIn K p.1 p.2 = true ∧ K.lookup p.2 = none ∧ g p.2 = some { cls := .none, data := .fields #[] } := by
  obtain ⟨h1, h⟩ := ba h
  obtain ⟨h2, h3⟩ := ba h
  refine ⟨h1, Option.isNone_iff_eq_none.mp h2, ?_⟩
  cases q : g p.2 with
  | none =>
    rw [q] at h3
    cases h3
  | some o =>
    rw [q] at h3
    rw [emptyTab_eq h3]
end Hq
end
section
open PySem PySem.Spec PyProof.Rows L2 He Dw
open LamX (Tabs TabS CodeO TabB)
namespace Hq
structure SaysQT (fs : List (List Fq)) (ds : List (List DefQ)) (ts : List TabQ) (h : Heap) (K : PySem.W.Frag) : Prop where
  q : SaysQ fs ds K
  t : ∀ t ∈ ts, PySem.W.codeHdIn K (t K).1 (t K).2 = true ∧ K.lookup (t K).2 = none ∧ h.get? (t K).2 = some { cls := .none, data := .fields #[] }
end Hq
end
section
open PySem PySem.Spec PyProof.Rows L2 He Dw
open LamX (Tabs TabS CodeO TabB)
namespace Hq
abbrev AlQT : Type := AlQ × Bool
end Hq
end
section
open PySem PySem.Spec PyProof.Rows L2 He Dw
open LamX (Tabs TabS CodeO TabB)
namespace Hq
def obsQT (as : List Addr) (fs : List (List Fq)) (ds : List (List DefQ)) (ts : List TabQ) (g : Addr → Option Obj) : AlQT := (obsQ fs ds (frG g as), ts.all fun t => tabB (frG g as) g (t (frG g as)))
end Hq
end
section
open PySem PySem.Spec PyProof.Rows L2 He Dw
open LamX (Tabs TabS CodeO TabB)
namespace Hq
def hookQT (as : List Addr) (fs : List (List Fq)) (ds : List (List DefQ)) (ts : List TabQ) : PySem.W.Hook where
  α := AlQT
  obs := fun s => obsQT as fs ds ts s.heap.get?
  val := fun _ => (valQ ds, true)
  says := fun _ h => ∃ K : PySem.W.Frag, K.In h ∧ SaysQT fs ds ts h K
  of := fun _ _ e => ⟨_, frG_in, congrArg (fun z : AlQT => z.1) e, fun t ht => tabB_ok (List.all_eq_true.mp (congrArg (fun z : AlQT => z.2) e) t ht)⟩
  keeps := fun _ _ _ ⟨K, hK, c⟩ k => ⟨K, PySem.W.Frag.In.keeps hK k, c.q, fun t ht => ⟨(c.t t ht).1, (c.t t ht).2.1, k _ _ (c.t t ht).2.2⟩⟩
end Hq
end
section
open PySem PySem.Spec PyProof.Rows L2 He Dw
open LamX (Tabs TabS CodeO TabB)
namespace Hq
theorem obsQT_eq {as : List Addr} {fs : List (List Fq)} {ds : List (List DefQ)} {ts : List TabQ} {g : Addr → Option Obj} {s : Shared} (h : ∀ a, g a = s.heap.get? a) : obsQT as fs ds ts g = (hookQT as fs ds ts).obs s := by
  have e : g = s.heap.get? := funext h
  rw [e] <;> rfl
end Hq
end
section
open PySem PySem.Spec PyProof.Rows L2 Dw
namespace B
def topS (i : Nat) : Stmt := PySem.Challenge.pw_blankcells_k34_texts_of_rules.main.body.getD i (.Pass ⟨0, 0, 0, 0⟩)
end B
end
section
open PySem PySem.Spec PyProof.Rows L2 Dw
namespace B
abbrev st_law_said : Stmt := topS 79
end B
end
section
open PySem PySem.Spec PyProof.Rows L2 Dw
namespace B
abbrev st_is_number : Stmt := topS 22
end B
end
section
open PySem PySem.Spec PyProof.Rows L2 Dw
namespace B
abbrev st_columns_line : Stmt := topS 46
end B
end
section
open PySem PySem.Spec PyProof.Rows L2 Dw
namespace B
abbrev st_rule_line : Stmt := topS 47
end B
end
section
open PySem PySem.Spec PyProof.Rows L2 Dw
namespace B
abbrev st_read_number : Stmt := topS 49
end B
end
section
open PySem PySem.Spec PyProof.Rows L2 Dw
namespace B
abbrev st_text_linesX : Stmt := topS 51
end B
end
section
open PySem PySem.Spec PyProof.Rows L2 Dw
namespace B
abbrev st_law_cell_at : Stmt := topS 72
end B
end
section
open PySem PySem.Spec PyProof.Rows L2 Dw
namespace B
abbrev st_law_pen : Stmt := topS 73
end B
end
section
open PySem PySem.Spec PyProof.Rows L2 Dw
namespace B
abbrev st_law_draw : Stmt := topS 74
end B
end
section
open PySem PySem.Spec PyProof.Rows L2 Dw
namespace B
abbrev st_law_same : Stmt := topS 75
end B
end
section
open PySem PySem.Spec PyProof.Rows L2 Dw
namespace B
abbrev st_law_word : Stmt := topS 78
end B
end
section
open PySem PySem.Spec PyProof.Rows L2 Dw
namespace B
abbrev st_law_no_many : Stmt := topS 81
end B
end
section
open PySem PySem.Spec PyProof.Rows L2 Dw
namespace B
abbrev st_law_no_rule : Stmt := topS 82
end B
end
section
open PySem PySem.Spec PyProof.Rows L2 Dw
namespace B
abbrev st_law_text : Stmt := topS 84
end B
end
section
open PySem PySem.Spec PyProof.Rows L2 Dw
namespace B
abbrev st_law_number : Stmt := topS 85
end B
end
section
open PySem PySem.Spec PyProof.Rows L2 Dw
namespace B
abbrev st_law_headed : Stmt := topS 86
end B
end
section
open PySem PySem.Spec PyProof.Rows L2 Dw
namespace B
abbrev st_law_lines : Stmt := topS 88
end B
end
section
open PySem PySem.Spec PyProof.Rows L2 Dw
namespace B
abbrev st_is_number_set : Stmt := topS 23
end B
end
section
open PySem PySem.Spec PyProof.Rows L2 Dw
namespace B
abbrev st_is_many : Stmt := topS 24
end B
end
section
open PySem PySem.Spec PyProof.Rows L2 Dw
namespace B
abbrev st_is_column : Stmt := topS 25
end B
end
section
open PySem PySem.Spec PyProof.Rows L2 Dw
namespace B
abbrev st_read_rule : Stmt := topS 50
end B
end
section
open PySem PySem.Spec PyProof.Rows L2 Dw
namespace B
abbrev st_law_rule : Stmt := topS 76
end B
end
section
open PySem PySem.Spec PyProof.Rows L2 Dw
namespace B
abbrev st_law_no_rules : Stmt := topS 83
end B
end
section
open PySem PySem.Spec PyProof.Rows L2 Dw
namespace B
abbrev st_law_near : Stmt := topS 87
end B
end
section
open PySem PySem.Spec PyProof.Rows L2 Dw
namespace B
abbrev st_law_parsed : Stmt := topS 89
end B
end
section
open PySem PySem.Spec PyProof.Rows L2 Dw
namespace B
abbrev st_are_columns : Stmt := topS 31
end B
end
section
open PySem PySem.Spec PyProof.Rows L2 Dw
namespace B
abbrev st_need_manyX : Stmt := topS 35
end B
end
section
open PySem PySem.Spec PyProof.Rows L2 Dw
namespace B
abbrev st_read_manyX : Stmt := topS 52
end B
end
section
open PySem PySem.Spec PyProof.Rows L2 Dw
namespace B
abbrev st_law_rules : Stmt := topS 77
end B
end
section
open PySem PySem.Spec PyProof.Rows L2 Dw
namespace B
abbrev st_is_rule : Stmt := topS 32
end B
end
section
open PySem PySem.Spec PyProof.Rows L2 Dw
namespace B
abbrev st_law_case : Stmt := topS 80
end B
end
section
open PySem PySem.Spec PyProof.Rows L2 Dw
namespace B
abbrev st_are_rulesX : Stmt := topS 33
end B
end
section
open PySem PySem.Spec PyProof.Rows L2 Dw
namespace B
abbrev st_need_rulesX : Stmt := topS 36
end B
end
section
open PySem PySem.Spec PyProof.Rows L2 Dw
namespace B
abbrev st_read_rulesX : Stmt := topS 53
end B
end
section
open PySem PySem.Spec PyProof.Rows L2 Dw
namespace B
abbrev st_rules_textX : Stmt := topS 48
end B
end
section
open PySem PySem.Spec PyProof.Rows L2 Dw
namespace B
abbrev st_Sheet_init : Stmt := inClass (topS 70) 1
end B
end
section
open PySem PySem.Spec PyProof.Rows L2 Dw
namespace B
abbrev st_law_right : Stmt := topS 90
end B
end
section
open PySem PySem.Spec PyProof.Rows L2 Dw
namespace B
abbrev st_law : Stmt := topS 91
end B
end
section
open PySem PySem.Spec PyProof.Rows L2 Dw
namespace B
def fq0 : List Hq.Fq := [fun K => decide (PySem.W.nsIn K mainGlobals "len" = some none),
  fun K => decide (PySem.W.nsIn K mainGlobals "range" = some none),
  fun K => decide (PySem.W.nsIn K mainGlobals "tuple" = some none),
  fun K => decide (PySem.W.nsIn K mainGlobals "list" = some none),
  fun K => decide (PySem.W.nsIn K mainGlobals "max" = some none),
  fun K => decide (PySem.W.nsIn K mainGlobals "min" = some none),
  fun K => decide (PySem.W.nsIn K mainGlobals "all" = some none),
  fun K => decide (PySem.W.nsIn K mainGlobals "any" = some none),
  fun K => decide (PySem.W.nsIn K mainGlobals "sorted" = some none),
  fun K => decide (PySem.W.nsIn K mainGlobals "repr" = some none),
  fun K => decide (PySem.W.nsIn K mainGlobals "isinstance" = some none),
  fun K => decide (PySem.W.nsIn K mainGlobals "int" = some none),
  fun K => decide (PySem.W.nsIn K mainGlobals "bool" = some none),
  fun K => decide (PySem.W.nsIn K mainGlobals "str" = some none),
  fun K => decide (PySem.W.nsIn K mainGlobals "enumerate" = some none),
  fun K => decide (PySem.W.nsIn K mainGlobals "zip" = some none),
  fun K => decide (PySem.W.nsIn K mainGlobals "set" = some none),
  fun K => decide (PySem.W.nsIn K mainGlobals "dict" = some none),
  fun K => decide (PySem.W.nsIn K mainGlobals "NO_NUMBER" = some (some (.int (-1) (Hq.tokO (PySem.W.nsIn K mainGlobals "NO_NUMBER"))))),
  fun K => decide (PySem.W.nsIn K mainGlobals "MOST_DIGITS" = some (some (.int 4 (Hq.tokO (PySem.W.nsIn K mainGlobals "MOST_DIGITS"))))),
  fun K => decide (PySem.W.nsIn K mainGlobals "MOST_COLUMNS" = some (some (.int 5 (Hq.tokO (PySem.W.nsIn K mainGlobals "MOST_COLUMNS"))))),
  fun K => decide (PySem.W.nsIn K mainGlobals "MOST_RULES" = some (some (.int 8 (Hq.tokO (PySem.W.nsIn K mainGlobals "MOST_RULES"))))),
  fun K => decide (PySem.W.nsIn K mainGlobals "DIGITS" = some (some (.str "0123456789" (Hq.tokO (PySem.W.nsIn K mainGlobals "DIGITS"))))),
  fun K => decide (PySem.W.nsIn K mainGlobals "Sheet" = some (some (.ref (He.ga K "Sheet")))),
  fun K => decide (PySem.W.plainGet K (He.ga K "Sheet") Str.empty = true)]
end B
end
section
open PySem PySem.Spec PyProof.Rows L2 Dw
namespace B
def fq1 : List Hq.Fq := [fun K => decide (PySem.W.hasDictIn K (He.ga K "Sheet") = true),
  fun K => decide (PySem.W.plainOver K (He.ga K "Sheet") = true),
  fun K => decide (PySem.W.findIn K (.ref (He.ga K "Sheet")) "__setattr__" = some (some (.builtin "object.__setattr__"))),
  fun K => decide (PySem.W.makesIn K (He.ga K "Sheet") = true),
  fun K => decide (PySem.W.keepIn K (.ref (He.ga K "Sheet")) = true),
  fun K => decide (PySem.W.findIn K (.ref (He.ga K "Sheet")) "columns" = some none),
  fun K => decide (PySem.W.findIn K (.ref (He.ga K "Sheet")) "kept_rules" = some none),
  fun K => decide (PySem.W.findIn K (.ref (He.ga K "Sheet")) "held" = some none),
  fun K => decide (PySem.W.findIn K (.ref (He.ga K "Sheet")) "past" = some none),
  fun K => decide (PySem.W.findIn K (.ref (He.ga K "Sheet")) "__init__" = some (some (.ref (He.ma K (He.ga K "Sheet") "__init__")))),
  fun K => decide (PySem.W.findIn K (.ref (He.ga K "Sheet")) "__class__" = some (some (.builtin "object.__class__"))),
  fun K => decide (PySem.W.mroIn K (He.ga K "Sheet") (.type "object") = some true),
  fun K => decide (PySem.W.specialIn K (.builtin "object.__class__") "__get__" = some (some (.builtin "getset_descriptor.__get__"))),
  fun K => decide (PySem.W.takesIn K (.builtin "object.__class__") = some true),
  fun K => decide (PySem.W.kitOne K (.ref (He.ga K "Sheet")) (.type "bool") = some false),
  fun K => decide (PySem.W.kitOne K (.ref (He.ga K "Sheet")) (.type "int") = some false),
  fun K => decide (PySem.W.kitOne K (.ref (He.ga K "Sheet")) (.type "str") = some false),
  fun K => decide (PySem.W.kitOne K (.ref (He.ga K "Sheet")) (.type "tuple") = some false),
  fun K => decide (PySem.W.isFn K (.ref (He.ma K (He.ga K "Sheet") "__init__")) = true),
  fun K => decide (PySem.W.keepIn K (.ref (He.ma K (He.ga K "Sheet") "__init__")) = true),
  fun K => Hq.mdB K (He.ma K (He.ga K "Sheet") "__init__") "Sheet.__init__",
  fun K => decide (PySem.W.nsIn K mainGlobals "Conflict" = some (some (.ref (He.ga K "Conflict")))),
  fun K => decide (PySem.W.nsIn K mainGlobals "NoColumns" = some (some (.ref (He.ga K "NoColumns")))),
  fun K => decide (PySem.W.nsIn K mainGlobals "NoFilling" = some (some (.ref (He.ga K "NoFilling")))),
  fun K => decide (PySem.W.nsIn K mainGlobals "NoFull" = some (some (.ref (He.ga K "NoFull"))))]
end B
end
section
open PySem PySem.Spec PyProof.Rows L2 Dw
namespace B
def fq2 : List Hq.Fq := [fun K => decide (PySem.W.nsIn K mainGlobals "NoMany" = some (some (.ref (He.ga K "NoMany")))),
  fun K => decide (PySem.W.nsIn K mainGlobals "NoNumber" = some (some (.ref (He.ga K "NoNumber")))),
  fun K => decide (PySem.W.nsIn K mainGlobals "NoParts" = some (some (.ref (He.ga K "NoParts")))),
  fun K => decide (PySem.W.nsIn K mainGlobals "NoRule" = some (some (.ref (He.ga K "NoRule")))),
  fun K => decide (PySem.W.nsIn K mainGlobals "NoRules" = some (some (.ref (He.ga K "NoRules")))),
  fun K => decide (PySem.W.nsIn K mainGlobals "NoTable" = some (some (.ref (He.ga K "NoTable")))),
  fun K => decide (PySem.W.nsIn K mainGlobals "NoText" = some (some (.ref (He.ga K "NoText")))),
  fun K => decide (PySem.W.nsIn K mainGlobals "TooMany" = some (some (.ref (He.ga K "TooMany")))),
  fun K => decide (PySem.W.nsIn K mainGlobals "BlankError" = some (some (.ref (He.ga K "BlankError")))),
  fun K => decide (PySem.W.excIn K (He.ga K "NoMany") HandSPX.veTail "ValueError.__new__" = true),
  fun K => decide (PySem.W.keepIn K (.ref (He.ga K "NoMany")) = true),
  fun K => decide (PySem.W.subIn K (.ref (He.ga K "NoMany")) (.type "BaseException") = some true),
  fun K => decide (PySem.W.typeIn K (.ref (He.ga K "NoMany")) = some (.type "type")),
  fun K => decide (PySem.W.excIn K (He.ga K "NoRules") HandSPX.veTail "ValueError.__new__" = true),
  fun K => decide (PySem.W.keepIn K (.ref (He.ga K "NoRules")) = true),
  fun K => decide (PySem.W.subIn K (.ref (He.ga K "NoRules")) (.type "BaseException") = some true),
  fun K => decide (PySem.W.typeIn K (.ref (He.ga K "NoRules")) = some (.type "type")),
  fun K => decide (PySem.W.excIn K (He.ga K "NoText") HandSPX.veTail "ValueError.__new__" = true),
  fun K => decide (PySem.W.keepIn K (.ref (He.ga K "NoText")) = true),
  fun K => decide (PySem.W.subIn K (.ref (He.ga K "NoText")) (.type "BaseException") = some true),
  fun K => decide (PySem.W.typeIn K (.ref (He.ga K "NoText")) = some (.type "type")),
  fun K => decide (PySem.W.nsIn K mainGlobals "ValueError" = some none),
  fun K => decide (PySem.W.exmOne K (.ref (He.ga K "NoMany")) (.ref (He.ga K "BlankError")) = some true),
  fun K => decide (PySem.W.kitOne K (.ref (He.ga K "NoMany")) (.type "ValueError") = some true),
  fun K => decide (PySem.W.kitOne K (.ref (He.ga K "NoMany")) (.ref (He.ga K "Conflict")) = some false)]
end B
end
section
open PySem PySem.Spec PyProof.Rows L2 Dw
namespace B
def fq3 : List Hq.Fq := [fun K => decide (PySem.W.kitOne K (.ref (He.ga K "NoMany")) (.ref (He.ga K "NoColumns")) = some false),
  fun K => decide (PySem.W.kitOne K (.ref (He.ga K "NoMany")) (.ref (He.ga K "NoFilling")) = some false),
  fun K => decide (PySem.W.kitOne K (.ref (He.ga K "NoMany")) (.ref (He.ga K "NoFull")) = some false),
  fun K => decide (PySem.W.kitOne K (.ref (He.ga K "NoMany")) (.ref (He.ga K "NoMany")) = some true),
  fun K => decide (PySem.W.kitOne K (.ref (He.ga K "NoMany")) (.ref (He.ga K "NoNumber")) = some false),
  fun K => decide (PySem.W.kitOne K (.ref (He.ga K "NoMany")) (.ref (He.ga K "NoParts")) = some false),
  fun K => decide (PySem.W.kitOne K (.ref (He.ga K "NoMany")) (.ref (He.ga K "NoRule")) = some false),
  fun K => decide (PySem.W.kitOne K (.ref (He.ga K "NoMany")) (.ref (He.ga K "NoRules")) = some false),
  fun K => decide (PySem.W.kitOne K (.ref (He.ga K "NoMany")) (.ref (He.ga K "NoTable")) = some false),
  fun K => decide (PySem.W.kitOne K (.ref (He.ga K "NoMany")) (.ref (He.ga K "NoText")) = some false),
  fun K => decide (PySem.W.kitOne K (.ref (He.ga K "NoMany")) (.ref (He.ga K "TooMany")) = some false),
  fun K => decide (PySem.W.findIn K (.ref (He.ga K "NoMany")) "__getattribute__" = some (some (.builtin "BaseException.__getattribute__"))),
  fun K => decide (PySem.W.findIn K (.ref (He.ga K "NoMany")) "__getattr__" = some none),
  fun K => decide (PySem.W.subIn K (.ref (He.ga K "NoMany")) (.type "BaseException") = some true),
  fun K => decide (PySem.W.hasDictIn K (He.ga K "NoMany") = true),
  fun K => decide (PySem.W.findIn K (.ref (He.ga K "NoMany")) "__class__" = some (some (.builtin "object.__class__"))),
  fun K => decide (PySem.W.mroIn K (He.ga K "NoMany") (.type "object") = some true),
  fun K => decide (PySem.W.exmOne K (.ref (He.ga K "NoRules")) (.ref (He.ga K "BlankError")) = some true),
  fun K => decide (PySem.W.kitOne K (.ref (He.ga K "NoRules")) (.type "ValueError") = some true),
  fun K => decide (PySem.W.kitOne K (.ref (He.ga K "NoRules")) (.ref (He.ga K "Conflict")) = some false),
  fun K => decide (PySem.W.kitOne K (.ref (He.ga K "NoRules")) (.ref (He.ga K "NoColumns")) = some false),
  fun K => decide (PySem.W.kitOne K (.ref (He.ga K "NoRules")) (.ref (He.ga K "NoFilling")) = some false),
  fun K => decide (PySem.W.kitOne K (.ref (He.ga K "NoRules")) (.ref (He.ga K "NoFull")) = some false),
  fun K => decide (PySem.W.kitOne K (.ref (He.ga K "NoRules")) (.ref (He.ga K "NoMany")) = some false),
  fun K => decide (PySem.W.kitOne K (.ref (He.ga K "NoRules")) (.ref (He.ga K "NoNumber")) = some false)]
end B
end
section
open PySem PySem.Spec PyProof.Rows L2 Dw
namespace B
def fq4 : List Hq.Fq := [fun K => decide (PySem.W.kitOne K (.ref (He.ga K "NoRules")) (.ref (He.ga K "NoParts")) = some false),
  fun K => decide (PySem.W.kitOne K (.ref (He.ga K "NoRules")) (.ref (He.ga K "NoRule")) = some false),
  fun K => decide (PySem.W.kitOne K (.ref (He.ga K "NoRules")) (.ref (He.ga K "NoRules")) = some true),
  fun K => decide (PySem.W.kitOne K (.ref (He.ga K "NoRules")) (.ref (He.ga K "NoTable")) = some false),
  fun K => decide (PySem.W.kitOne K (.ref (He.ga K "NoRules")) (.ref (He.ga K "NoText")) = some false),
  fun K => decide (PySem.W.kitOne K (.ref (He.ga K "NoRules")) (.ref (He.ga K "TooMany")) = some false),
  fun K => decide (PySem.W.findIn K (.ref (He.ga K "NoRules")) "__getattribute__" = some (some (.builtin "BaseException.__getattribute__"))),
  fun K => decide (PySem.W.findIn K (.ref (He.ga K "NoRules")) "__getattr__" = some none),
  fun K => decide (PySem.W.subIn K (.ref (He.ga K "NoRules")) (.type "BaseException") = some true),
  fun K => decide (PySem.W.hasDictIn K (He.ga K "NoRules") = true),
  fun K => decide (PySem.W.findIn K (.ref (He.ga K "NoRules")) "__class__" = some (some (.builtin "object.__class__"))),
  fun K => decide (PySem.W.mroIn K (He.ga K "NoRules") (.type "object") = some true),
  fun K => decide (PySem.W.exmOne K (.ref (He.ga K "NoText")) (.ref (He.ga K "BlankError")) = some true),
  fun K => decide (PySem.W.kitOne K (.ref (He.ga K "NoText")) (.type "ValueError") = some true),
  fun K => decide (PySem.W.kitOne K (.ref (He.ga K "NoText")) (.ref (He.ga K "Conflict")) = some false),
  fun K => decide (PySem.W.kitOne K (.ref (He.ga K "NoText")) (.ref (He.ga K "NoColumns")) = some false),
  fun K => decide (PySem.W.kitOne K (.ref (He.ga K "NoText")) (.ref (He.ga K "NoFilling")) = some false),
  fun K => decide (PySem.W.kitOne K (.ref (He.ga K "NoText")) (.ref (He.ga K "NoFull")) = some false),
  fun K => decide (PySem.W.kitOne K (.ref (He.ga K "NoText")) (.ref (He.ga K "NoMany")) = some false),
  fun K => decide (PySem.W.kitOne K (.ref (He.ga K "NoText")) (.ref (He.ga K "NoNumber")) = some false),
  fun K => decide (PySem.W.kitOne K (.ref (He.ga K "NoText")) (.ref (He.ga K "NoParts")) = some false),
  fun K => decide (PySem.W.kitOne K (.ref (He.ga K "NoText")) (.ref (He.ga K "NoRule")) = some false),
  fun K => decide (PySem.W.kitOne K (.ref (He.ga K "NoText")) (.ref (He.ga K "NoRules")) = some false),
  fun K => decide (PySem.W.kitOne K (.ref (He.ga K "NoText")) (.ref (He.ga K "NoTable")) = some false),
  fun K => decide (PySem.W.kitOne K (.ref (He.ga K "NoText")) (.ref (He.ga K "NoText")) = some true)]
end B
end
section
open PySem PySem.Spec PyProof.Rows L2 Dw
namespace B
def fq5 : List Hq.Fq := [fun K => decide (PySem.W.kitOne K (.ref (He.ga K "NoText")) (.ref (He.ga K "TooMany")) = some false),
  fun K => decide (PySem.W.findIn K (.ref (He.ga K "NoText")) "__getattribute__" = some (some (.builtin "BaseException.__getattribute__"))),
  fun K => decide (PySem.W.findIn K (.ref (He.ga K "NoText")) "__getattr__" = some none),
  fun K => decide (PySem.W.subIn K (.ref (He.ga K "NoText")) (.type "BaseException") = some true),
  fun K => decide (PySem.W.hasDictIn K (He.ga K "NoText") = true),
  fun K => decide (PySem.W.findIn K (.ref (He.ga K "NoText")) "__class__" = some (some (.builtin "object.__class__"))),
  fun K => decide (PySem.W.mroIn K (He.ga K "NoText") (.type "object") = some true),
  fun K => decide (PySem.W.nsIn K mainGlobals "is_number" = some (some (.ref (He.ga K "is_number")))),
  fun K => Hq.mdB K (He.ga K "is_number") "is_number",
  fun K => decide (PySem.W.nsIn K mainGlobals "columns_line" = some (some (.ref (He.ga K "columns_line")))),
  fun K => Hq.mdB K (He.ga K "columns_line") "columns_line",
  fun K => decide (PySem.W.nsIn K mainGlobals "rule_line" = some (some (.ref (He.ga K "rule_line")))),
  fun K => Hq.mdB K (He.ga K "rule_line") "rule_line",
  fun K => decide (PySem.W.nsIn K mainGlobals "read_number" = some (some (.ref (He.ga K "read_number")))),
  fun K => Hq.mdB K (He.ga K "read_number") "read_number",
  fun K => decide (PySem.W.nsIn K mainGlobals "text_lines" = some (some (.ref (He.ga K "text_lines")))),
  fun K => Hq.mdB K (He.ga K "text_lines") "text_lines",
  fun K => decide (PySem.W.nsIn K mainGlobals "_law_cell_at" = some (some (.ref (He.ga K "_law_cell_at")))),
  fun K => Hq.mdB K (He.ga K "_law_cell_at") "_law_cell_at",
  fun K => decide (PySem.W.nsIn K mainGlobals "_law_pen" = some (some (.ref (He.ga K "_law_pen")))),
  fun K => Hq.mdB K (He.ga K "_law_pen") "_law_pen",
  fun K => decide (PySem.W.nsIn K mainGlobals "_law_draw" = some (some (.ref (He.ga K "_law_draw")))),
  fun K => Hq.mdB K (He.ga K "_law_draw") "_law_draw",
  fun K => decide (PySem.W.nsIn K mainGlobals "_law_same" = some (some (.ref (He.ga K "_law_same")))),
  fun K => Hq.mdB K (He.ga K "_law_same") "_law_same"]
end B
end
section
open PySem PySem.Spec PyProof.Rows L2 Dw
namespace B
def fq6 : List Hq.Fq := [fun K => decide (PySem.W.nsIn K mainGlobals "_law_word" = some (some (.ref (He.ga K "_law_word")))),
  fun K => Hq.mdB K (He.ga K "_law_word") "_law_word",
  fun K => decide (PySem.W.nsIn K mainGlobals "_law_no_many" = some (some (.ref (He.ga K "_law_no_many")))),
  fun K => Hq.mdB K (He.ga K "_law_no_many") "_law_no_many",
  fun K => decide (PySem.W.nsIn K mainGlobals "_law_no_rule" = some (some (.ref (He.ga K "_law_no_rule")))),
  fun K => Hq.mdB K (He.ga K "_law_no_rule") "_law_no_rule",
  fun K => decide (PySem.W.nsIn K mainGlobals "_law_text" = some (some (.ref (He.ga K "_law_text")))),
  fun K => Hq.mdB K (He.ga K "_law_text") "_law_text",
  fun K => decide (PySem.W.nsIn K mainGlobals "_law_number" = some (some (.ref (He.ga K "_law_number")))),
  fun K => Hq.mdB K (He.ga K "_law_number") "_law_number",
  fun K => decide (PySem.W.nsIn K mainGlobals "_law_headed" = some (some (.ref (He.ga K "_law_headed")))),
  fun K => Hq.mdB K (He.ga K "_law_headed") "_law_headed",
  fun K => decide (PySem.W.nsIn K mainGlobals "_law_lines" = some (some (.ref (He.ga K "_law_lines")))),
  fun K => Hq.mdB K (He.ga K "_law_lines") "_law_lines",
  fun K => decide (PySem.W.nsIn K mainGlobals "is_number_set" = some (some (.ref (He.ga K "is_number_set")))),
  fun K => Hq.mdB K (He.ga K "is_number_set") "is_number_set",
  fun K => decide (PySem.W.nsIn K mainGlobals "is_many" = some (some (.ref (He.ga K "is_many")))),
  fun K => Hq.mdB K (He.ga K "is_many") "is_many",
  fun K => decide (PySem.W.nsIn K mainGlobals "is_column" = some (some (.ref (He.ga K "is_column")))),
  fun K => Hq.mdB K (He.ga K "is_column") "is_column",
  fun K => decide (PySem.W.nsIn K mainGlobals "read_rule" = some (some (.ref (He.ga K "read_rule")))),
  fun K => Hq.mdB K (He.ga K "read_rule") "read_rule",
  fun K => decide (PySem.W.nsIn K mainGlobals "_law_rule" = some (some (.ref (He.ga K "_law_rule")))),
  fun K => Hq.mdB K (He.ga K "_law_rule") "_law_rule",
  fun K => decide (PySem.W.nsIn K mainGlobals "_law_no_rules" = some (some (.ref (He.ga K "_law_no_rules"))))]
end B
end
section
open PySem PySem.Spec PyProof.Rows L2 Dw
namespace B
def fq7 : List Hq.Fq := [fun K => Hq.mdB K (He.ga K "_law_no_rules") "_law_no_rules",
  fun K => decide (PySem.W.nsIn K mainGlobals "_law_near" = some (some (.ref (He.ga K "_law_near")))),
  fun K => Hq.mdB K (He.ga K "_law_near") "_law_near",
  fun K => decide (PySem.W.nsIn K mainGlobals "_law_parsed" = some (some (.ref (He.ga K "_law_parsed")))),
  fun K => Hq.mdB K (He.ga K "_law_parsed") "_law_parsed",
  fun K => decide (PySem.W.nsIn K mainGlobals "are_columns" = some (some (.ref (He.ga K "are_columns")))),
  fun K => Hq.mdB K (He.ga K "are_columns") "are_columns",
  fun K => decide (PySem.W.nsIn K mainGlobals "need_many" = some (some (.ref (He.ga K "need_many")))),
  fun K => Hq.mdB K (He.ga K "need_many") "need_many",
  fun K => decide (PySem.W.nsIn K mainGlobals "read_many" = some (some (.ref (He.ga K "read_many")))),
  fun K => Hq.mdB K (He.ga K "read_many") "read_many",
  fun K => decide (PySem.W.nsIn K mainGlobals "_law_rules" = some (some (.ref (He.ga K "_law_rules")))),
  fun K => Hq.mdB K (He.ga K "_law_rules") "_law_rules",
  fun K => decide (PySem.W.nsIn K mainGlobals "is_rule" = some (some (.ref (He.ga K "is_rule")))),
  fun K => Hq.mdB K (He.ga K "is_rule") "is_rule",
  fun K => decide (PySem.W.nsIn K mainGlobals "_law_case" = some (some (.ref (He.ga K "_law_case")))),
  fun K => Hq.mdB K (He.ga K "_law_case") "_law_case",
  fun K => decide (PySem.W.nsIn K mainGlobals "are_rules" = some (some (.ref (He.ga K "are_rules")))),
  fun K => Hq.mdB K (He.ga K "are_rules") "are_rules",
  fun K => decide (PySem.W.nsIn K mainGlobals "need_rules" = some (some (.ref (He.ga K "need_rules")))),
  fun K => Hq.mdB K (He.ga K "need_rules") "need_rules",
  fun K => decide (PySem.W.nsIn K mainGlobals "read_rules" = some (some (.ref (He.ga K "read_rules")))),
  fun K => Hq.mdB K (He.ga K "read_rules") "read_rules",
  fun K => decide (PySem.W.nsIn K mainGlobals "rules_text" = some (some (.ref (He.ga K "rules_text")))),
  fun K => Hq.mdB K (He.ga K "rules_text") "rules_text"]
end B
end
section
open PySem PySem.Spec PyProof.Rows L2 Dw
namespace B
def fq8 : List Hq.Fq := [fun K => decide (PySem.W.nsIn K mainGlobals "_law_right" = some (some (.ref (He.ga K "_law_right")))),
  fun K => Hq.mdB K (He.ga K "_law_right") "_law_right",
  fun K => decide (PySem.W.nsIn K mainGlobals "law" = some (some (.ref (He.ga K "law")))),
  fun K => Hq.mdB K (He.ga K "law") "law",
  fun K => decide (PySem.W.nsIn K mainGlobals "_law_said" = some (some (.ref (He.ga K "_law_said")))),
  fun K => Hq.mdB K (He.ga K "_law_said") "_law_said",
  fun K => decide ((Hq.tbAd (fun K => He.ga K "law") K).2 ≠ (Hq.tbAd (fun K => He.ga K "_law_right") K).2),
  fun K => decide ((Hq.tbAd (fun K => He.ga K "_law_right") K).2 ≠ (Hq.tbAd (fun K => He.ga K "law") K).2)]
end B
end
section
open PySem PySem.Spec PyProof.Rows L2 Dw
namespace B
def fq : List (List Hq.Fq) := [fq0, fq1, fq2, fq3, fq4, fq5, fq6, fq7, fq8]
end B
end
section
open PySem PySem.Spec PyProof.Rows L2 Dw
namespace B
def dq0 : List Hq.DefQ := [⟨fun K => (He.ma K (He.ga K "Sheet") "__init__"), "__init__", "Sheet.__init__", st_Sheet_init, []⟩,
  ⟨fun K => (He.ga K "is_number"), "is_number", "is_number", st_is_number, []⟩,
  ⟨fun K => (He.ga K "columns_line"), "columns_line", "columns_line", st_columns_line, []⟩,
  ⟨fun K => (He.ga K "rule_line"), "rule_line", "rule_line", st_rule_line, []⟩,
  ⟨fun K => (He.ga K "read_number"), "read_number", "read_number", st_read_number, []⟩,
  ⟨fun K => (He.ga K "text_lines"), "text_lines", "text_lines", st_text_linesX, []⟩,
  ⟨fun K => (He.ga K "_law_cell_at"), "_law_cell_at", "_law_cell_at", st_law_cell_at, []⟩,
  ⟨fun K => (He.ga K "_law_pen"), "_law_pen", "_law_pen", st_law_pen, []⟩,
  ⟨fun K => (He.ga K "_law_draw"), "_law_draw", "_law_draw", st_law_draw, []⟩,
  ⟨fun K => (He.ga K "_law_same"), "_law_same", "_law_same", st_law_same, []⟩,
  ⟨fun K => (He.ga K "_law_word"), "_law_word", "_law_word", st_law_word, []⟩,
  ⟨fun K => (He.ga K "_law_no_many"), "_law_no_many", "_law_no_many", st_law_no_many, []⟩,
  ⟨fun K => (He.ga K "_law_no_rule"), "_law_no_rule", "_law_no_rule", st_law_no_rule, []⟩,
  ⟨fun K => (He.ga K "_law_text"), "_law_text", "_law_text", st_law_text, []⟩,
  ⟨fun K => (He.ga K "_law_number"), "_law_number", "_law_number", st_law_number, []⟩,
  ⟨fun K => (He.ga K "_law_headed"), "_law_headed", "_law_headed", st_law_headed, []⟩,
  ⟨fun K => (He.ga K "_law_lines"), "_law_lines", "_law_lines", st_law_lines, []⟩,
  ⟨fun K => (He.ga K "is_number_set"), "is_number_set", "is_number_set", st_is_number_set, []⟩,
  ⟨fun K => (He.ga K "is_many"), "is_many", "is_many", st_is_many, []⟩,
  ⟨fun K => (He.ga K "is_column"), "is_column", "is_column", st_is_column, []⟩,
  ⟨fun K => (He.ga K "read_rule"), "read_rule", "read_rule", st_read_rule, []⟩,
  ⟨fun K => (He.ga K "_law_rule"), "_law_rule", "_law_rule", st_law_rule, []⟩,
  ⟨fun K => (He.ga K "_law_no_rules"), "_law_no_rules", "_law_no_rules", st_law_no_rules, []⟩,
  ⟨fun K => (He.ga K "_law_near"), "_law_near", "_law_near", st_law_near, []⟩,
  ⟨fun K => (He.ga K "_law_parsed"), "_law_parsed", "_law_parsed", st_law_parsed, []⟩]
end B
end
section
open PySem PySem.Spec PyProof.Rows L2 Dw
namespace B
def dq1 : List Hq.DefQ := [⟨fun K => (He.ga K "are_columns"), "are_columns", "are_columns", st_are_columns, []⟩,
  ⟨fun K => (He.ga K "need_many"), "need_many", "need_many", st_need_manyX, []⟩,
  ⟨fun K => (He.ga K "read_many"), "read_many", "read_many", st_read_manyX, []⟩,
  ⟨fun K => (He.ga K "_law_rules"), "_law_rules", "_law_rules", st_law_rules, []⟩,
  ⟨fun K => (He.ga K "is_rule"), "is_rule", "is_rule", st_is_rule, []⟩,
  ⟨fun K => (He.ga K "_law_case"), "_law_case", "_law_case", st_law_case, []⟩,
  ⟨fun K => (He.ga K "are_rules"), "are_rules", "are_rules", st_are_rulesX, []⟩,
  ⟨fun K => (He.ga K "need_rules"), "need_rules", "need_rules", st_need_rulesX, []⟩,
  ⟨fun K => (He.ga K "read_rules"), "read_rules", "read_rules", st_read_rulesX, []⟩,
  ⟨fun K => (He.ga K "rules_text"), "rules_text", "rules_text", st_rules_textX, []⟩,
  ⟨fun K => (He.ga K "_law_right"), "_law_right", "_law_right", st_law_right, []⟩,
  ⟨fun K => (He.ga K "law"), "law", "law", st_law, []⟩,
  ⟨fun K => (He.ga K "_law_said"), "_law_said", "_law_said", st_law_said, []⟩]
end B
end
section
open PySem PySem.Spec PyProof.Rows L2 Dw
namespace B
def dq : List (List Hq.DefQ) := [dq0, dq1]
end B
end
section
open PySem PySem.Spec PyProof.Rows L2 Dw
namespace B
def qsq : List (Hq.TabQ × Str) := [(Hq.tbAd (fun K => He.ga K "_law_right"), ((("_law_right" : Str) ++ ".<locals>.") ++ "<lambda>")), (Hq.tbAd (fun K => He.ga K "law"), ((("law" : Str) ++ ".<locals>.") ++ "<lambda>"))]
end B
end
section
open PySem PySem.Spec PyProof.Rows L2
namespace B
def aq0 : List Addr := [3, 30, 31, 44, 55, 56, 67, 68, 80, 92, 128, 140, 152, 164, 175, 176, 197, 218, 226, 227, 231, 232, 238, 239, 245, 246, 283, 284, 290, 291]
end B
end
section
open PySem PySem.Spec PyProof.Rows L2
namespace B
def aq1 : List Addr := [295, 296, 309, 310, 316, 317, 350, 351, 355, 356, 360, 361, 365, 366, 370, 371, 377, 378, 384, 385, 389, 390, 482, 483, 639, 640, 650, 651, 657, 658]
end B
end
section
open PySem PySem.Spec PyProof.Rows L2
namespace B
def aq2 : List Addr := [664, 665, 671, 672, 676, 677, 681, 682, 688, 689, 695, 696, 702, 703, 709, 710, 716, 717, 721, 722, 726, 727, 731, 732, 738, 739, 745, 746, 750, 751]
end B
end
section
open PySem PySem.Spec PyProof.Rows L2
namespace B
def aq3 : List Addr := [755, 756, 762, 763, 769, 770]
end B
end
section
open PySem PySem.Spec PyProof.Rows L2
namespace B
def aq : List Addr := aq0 ++ aq1 ++ aq2 ++ aq3
end B
end
section
open PySem PySem.Spec PyProof.Rows L2
namespace B
def lq0 : List Str := ["_wall", "BlankError", "NoTable", "NoMany", "NoRules", "NoRule", "NoFull", "NoPlace", "NoCell", "NoColumns", "NoParts", "NoNumber", "NoFilling", "NoText", "TooMany", "Conflict", "MOST_COLUMNS", "MOST_ROWS", "MOST_RULES", "HIGHEST_VALUE", "is_number", "is_number_set", "is_many", "is_column", "is_cell", "is_row", "are_rows", "is_table", "is_place", "are_columns"]
end B
end
section
open PySem PySem.Spec PyProof.Rows L2
namespace B
def lq1 : List Str := ["is_rule", "are_rules", "need_table", "need_many", "need_rules", "need_place", "blanks", "with_cells", "keeps_values", "row_pairs", "DIGITS", "MOST_DIGITS", "NO_NUMBER", "columns_line", "rule_line", "rules_text", "read_number", "read_rule", "text_lines", "read_many", "read_rules", "value_marks", "column_marks", "are_joined", "join_cells", "is_possible", "take_step", "take_rule_steps", "take_all_steps", "joined_marks"]
end B
end
section
open PySem PySem.Spec PyProof.Rows L2
namespace B
def lq2 : List Str := ["lot_values", "known_rows", "has_clash", "filling_marks", "Sheet", "_law_cell_at", "_law_pen", "_law_draw", "_law_same", "_law_rule", "_law_rules", "_law_word", "_law_said", "_law_case", "_law_no_many", "_law_no_rule", "_law_no_rules", "_law_text", "_law_number", "_law_headed", "_law_near", "_law_lines", "_law_parsed", "_law_right"]
end B
end
section
open PySem PySem.Spec PyProof.Rows L2
namespace B
def lq : List Str := lq0 ++ lq1 ++ lq2
end B
end
section
open PySem PySem.Spec PyProof.Rows L2
namespace B
def tsq : List Hq.TabQ := qsq.map (·.1)
end B
end
section
open PySem PySem.Spec PyProof.Rows L2
namespace B
abbrev hkq : PySem.W.Hook := Hq.hookQT aq fq dq tsq
end B
end
section
open PySem PySem.Spec PyProof.Rows L2
namespace B
def obq (s : PySem.W.SharedT) : Hq.AlQT := Hq.obsQT aq fq dq tsq (HandSHeadRun.getT s)
end B
end
section
open PySem PySem.Spec PyProof.Rows L2
namespace B
theorem obq_eq (s : PySem.W.SharedT) : obq s = hkq.obs s.abs := Hq.obsQT_eq (HandSHeadRun.getT_eq s)
end B
end
section
open PySem PySem.Spec PyProof.Rows L2
namespace B
set_option maxHeartbeats 0 in
theorem runq (w : World) : HandSHeadRun.RunEq (PySem.W.OpenLaw.row PySem.Challenge.rw_blankcells_k34_texts_of_rules) (PySem.W.view (PySem.W.OpenLaw.row PySem.Challenge.rw_blankcells_k34_texts_of_rules).prog [91]) hkq obq 6542 lq w := by
  intro os
  kernel_rfl
end B
end
set_option Elab.async false
set_option linter.all false
set_option maxRecDepth 100000
set_option maxHeartbeats 4000000
namespace Dw
open PySem PySem.Spec PyProof.Rows L2
inductive Fv where
  | d (x : PyData)
  | l (p : Nat) (xs : List PyData)
structure Ob where
  n : Str
  a : Nat
  dx : Nat
  fs : List (Str × Fv)
def adsF : List (Str × Fv) → List Nat
  | [] => []
  | (_, .d _) :: fs => adsF fs
  | (_, .l p _) :: fs => p :: adsF fs
def Ob.ads (o : Ob) : List Nat := o.a :: adsF o.fs
inductive Sl where
  | un
  | d (x : PyData)
  | o (xs : List PyData)
  | m (kvs : List (List Int × PyData))
  | k (ks : List Int)
  | s (o : Ob)
inductive Rv where
  | d (x : PyData)
  | l (xs : List PyData)
  | b (i : Nat) (xs : List PyData)
def Rv.as : Rv → PyData
  | .d x => x
  | .l xs => .list xs
  | .b _ xs => .list xs
abbrev Dl := List Sl
abbrev WE := Dl → (Rv → Dl → Prop) → Prop
def ky (ks : List Int) : List Key := ks.map Sum.inl
def entK (p : Int × Int) : Key × V := (Sum.inl p.1, V.int p.2)
def entT (p : List Int × Int) : List Key × V := (ky p.1, V.int p.2)
def entKD (p : Int × Int) : PyData × PyData := (.int p.1, .int p.2)
def entTD (p : List Int × Int) : PyData × PyData := (.tuple (p.1.map PyData.int), .int p.2)
def entN (p : List Int × Int) : List Key × V := (ky p.1, V.non)
abbrev dkD (kvs : List (Int × Int)) : PyData := .dict ((.none, .int 0) :: kvs.map entKD)
abbrev dtD (kvs : List (List Int × Int)) : PyData := .dict ((.none, .int 1) :: kvs.map entTD)
abbrev e0D : PyData := .dict [(.none, .int 2)]
abbrev xD (ns : List Int) : PyData := .dict [(.none, .int 3), (.none, .list (ns.map PyData.int))]
abbrev dnD (kvs : List (List Int × Int)) : PyData := .dict ((.none, .int 5) :: kvs.map entTD)
abbrev adD (a : Nat) : PyData := .dict [(.none, .int 4), (.none, .int (a : Nat))]
abbrev obD (m : Int) : PyData := .dict [(.none, .int 6), (.none, .int m)]
mutual
inductive Dp (K : PySem.W.Frag) (H : Hp) : V → PyData → Prop
  | non : Dp K H .non .none
  | bl (b : Bool) : Dp K H (.bl b) (.bool b)
  | int (i : Int) : Dp K H (.int i) (.int i)
  | str (x : Str) : Dp K H (.str x) (.str x)
  | lst {a : Addr} {xs : List V} {ds : List PyData} : SqL K H a xs → DpAll K H xs ds → Dp K H (.ref a) (.list ds)
  | tup {a : Addr} {xs : List V} {ds : List PyData} : H a = some (.tup xs) → DpAll K H xs ds → Dp K H (.ref a) (.tuple ds)
  | dk {a : Addr} {kvs : List (Int × Int)} : H a = some (.dK (kvs.map entK)) → Dp K H (.ref a) (dkD kvs)
  | dt {a : Addr} {kvs : List (List Int × Int)} : H a = some (.dT (kvs.map entT)) → Dp K H (.ref a) (dtD kvs)
  | e0 {a : Addr} : SqT K H a [] → Dp K H (.ref a) e0D
  | xt {a : Addr} {o : Obj} {ns : List Int} : H a = some (.frz o (.tup (ns.map V.int))) → o.dict = none → Dp K H (.ref a) (xD ns)
  | ad {a : Addr} : Dp K H (.ref a) (adD a)
  | dn {a : Addr} {kvs : List (List Int × Int)} : H a = some (.dT (kvs.map entN)) → Dp K H (.ref a) (dnD kvs)
  | ob {a C dx b : Addr} {us : List (Str × V)} {m : Int} : H a = some (.ins C dx us) → PySem.W.nsIn K mainGlobals "Sheet" = some (some (.ref C)) → us.lookup ("columns" : Str) = some (.int m) → us.lookup ("held" : Str) = some (.ref b) → us.lookup ("NAME" : Str) = none → H b = some (.tup []) → Dp K H (.ref a) (obD m)
inductive DpAll (K : PySem.W.Frag) (H : Hp) : List V → List PyData → Prop
  | nil : DpAll K H [] []
  | cons {v : V} {vs : List V} {d : PyData} {ds : List PyData} : Dp K H v d → DpAll K H vs ds → DpAll K H (v :: vs) (d :: ds)
end

open Classical in
noncomputable def hid (H : Hp) (O : Addr → Prop) : Hp := fun a => if O a then none else H a
section
variable {H H' : Hp} {O O' : Addr → Prop} {a : Addr} {o : HO}
theorem hid_no (h : ¬ O a) : hid H O a = H a := by unfold hid; rw [if_neg h]
theorem hid_yes (h : O a) : hid H O a = none := by unfold hid; rw [if_pos h]
theorem hid_some (h : hid H O a = some o) : ¬ O a ∧ H a = some o := by
  by_cases q : O a
  · rw [hid_yes q] at h; cases h
  · rw [hid_no q] at h; exact ⟨q, h⟩
theorem hid_le : Same (hid H O) H := fun _ _ h => (hid_some h).2
theorem hid_sub (h : ∀ a, O' a → O a) : Same (hid H O) (hid H O') := fun b x e => by
  obtain ⟨n, e⟩ := hid_some e
  rw [hid_no fun z => n (h b z)]; exact e
theorem hid_upd (h : O a) : hid (upd H a o) O = hid H O := by
  funext b
  by_cases q : O b
  · rw [hid_yes q, hid_yes q]
  · rw [hid_no q, hid_no q, upd_ne]
    rintro rfl
    exact q h
theorem hid_new (h : H a = none) : Same (hid H O) (hid (upd H a o) O) := fun b x e => by
  obtain ⟨n, e⟩ := hid_some e
  rw [hid_no n, upd_ne (ne_of_none e h)]; exact e
end
section
variable {K : PySem.W.Frag} {H H' : Hp}
theorem rd_mono (e : Same H H') {a : Addr} {u : HO} (h : Rd H a u) : Rd H' a u := by
  rcases h with h | ⟨o, h⟩
  · exact .inl (e _ _ h)
  · exact .inr ⟨o, e _ _ h⟩
theorem sl_mono (e : Same H H') {a : Addr} {xs : List V} (h : SqL K H a xs) : SqL K H' a xs := h.imp (rd_mono e) id
theorem st_mono (e : Same H H') {a : Addr} {xs : List V} (h : SqT K H a xs) : SqT K H' a xs := h.imp (rd_mono e) id
mutual
theorem dp_mono (e : Same H H') : ∀ (d : PyData) (v : V), Dp K H v d → Dp K H' v d
  | .none, _, h => by cases h; exact .non
  | .bool b, _, h => by cases h; exact .bl b
  | .int i, _, h => by cases h; exact .int i
  | .str x, _, h => by cases h; exact .str x
  | .list ds, _, h => by
    cases h with
    | lst hs ha => exact .lst (sl_mono e hs) (da_mono e ds _ ha)
  | .tuple ds, _, h => by
    cases h with
    | tup hs ha => exact .tup (e _ _ hs) (da_mono e ds _ ha)
  | .dict _, _, h => by
    cases h with
    | dk h => exact .dk (e _ _ h)
    | dt h => exact .dt (e _ _ h)
    | e0 h => exact .e0 (st_mono e h)
    | xt h n => exact .xt (e _ _ h) n
    | ad => exact .ad
    | dn h => exact .dn (e _ _ h)
    | ob h c l1 l2 l3 h2 => exact .ob (e _ _ h) c l1 l2 l3 (e _ _ h2)
theorem da_mono (e : Same H H') : ∀ (ds : List PyData) (vs : List V), DpAll K H vs ds → DpAll K H' vs ds
  | [], _, h => by cases h; exact .nil
  | d :: ds, _, h => by
    cases h with
    | cons h1 h2 => exact .cons (dp_mono e d _ h1) (da_mono e ds _ h2)
end
mutual
theorem dp_l2 : ∀ (d : PyData) (v : V), Dp K H v d → d.hasDict = false → L2.Dp K H v d
  | .none, _, h, _ => by cases h; exact .non
  | .bool b, _, h, _ => by cases h; exact .bl b
  | .int i, _, h, _ => by cases h; exact .int i
  | .str x, _, h, _ => by cases h; exact .str x
  | .list ds, _, h, n => by
    cases h with
    | lst hs ha => exact .lst hs (da_l2 ds _ ha (by simpa only [PyData.hasDict] using n))
  | .tuple ds, _, h, n => by
    cases h with
    | tup hs ha => exact .tup (.inl (.inl hs)) (da_l2 ds _ ha (by simpa only [PyData.hasDict] using n))
  | .dict _, _, h, n => by simp [PyData.hasDict] at n
theorem da_l2 : ∀ (ds : List PyData) (vs : List V), DpAll K H vs ds → PyData.hasDictAll ds = false → L2.DpAll K H vs ds
  | [], _, h, _ => by cases h; exact .nil
  | d :: ds, _, h, n => by
    cases h with
    | cons h1 h2 =>
      rw [PyData.hasDictAll, Bool.or_eq_false_iff] at n
      exact .cons (dp_l2 d _ h1 n.1) (da_l2 ds _ h2 n.2)
end
mutual
theorem lay_nd : ∀ (d : PyData), d.canLay0 = true → d.hasDict = false
  | .none, _ => rfl
  | .bool _, _ => rfl
  | .int _, _ => rfl
  | .str _, _ => rfl
  | .list ds, h => by rw [PyData.hasDict]; exact lay_nds ds (by simpa only [PyData.canLay0] using h)
  | .tuple ds, h => by rw [PyData.hasDict]; exact lay_nds ds (by simpa only [PyData.canLay0] using h)
  | .dict _, h => by simp [PyData.canLay0] at h
theorem lay_nds : ∀ (ds : List PyData), PyData.canLayAll0 ds = true → PyData.hasDictAll ds = false
  | [], _ => rfl
  | d :: ds, h => by
    rw [PyData.canLayAll0, Bool.and_eq_true] at h
    rw [PyData.hasDictAll, lay_nd d h.1, lay_nds ds h.2]; rfl
end
theorem Dp.shaped {v : V} {d : PyData} (h : Dp K H v d) (n : SeqAt.shaped d = true) : L2.Dp K H v d := dp_l2 d v h (lay_nd d (SeqAt.canLay_of_shaped n))
theorem Dp.up {v : V} {d : PyData} (h : Dp K H v d) (e : Same H H') : Dp K H' v d := dp_mono e d v h
theorem DpAll.up {vs : List V} {ds : List PyData} (h : DpAll K H vs ds) (e : Same H H') : DpAll K H' vs ds := da_mono e ds vs h
theorem da_len : ∀ {vs : List V} {ds : List PyData}, DpAll K H vs ds → vs.length = ds.length
  | [], _, h => by cases h; rfl
  | v :: vs, _, h => by
    cases h with
    | cons h1 h2 => simp [da_len h2]
theorem da_get : ∀ {ds : List PyData} {vs : List V} {i : Nat} {d : PyData}, DpAll K H vs ds → ds[i]? = some d → ∃ v, vs[i]? = some v ∧ Dp K H v d
  | [], _, _, _, h, e => by simp at e
  | d0 :: ds, _, 0, d, h, e => by
    cases h with
    | cons h1 h2 =>
      have q : d0 = d := Option.some.inj e
      subst q
      exact ⟨_, rfl, h1⟩
  | d0 :: ds, _, i + 1, d, h, e => by
    cases h with
    | cons h1 h2 =>
      obtain ⟨v, a, b⟩ := da_get h2 (i := i) (d := d) e
      exact ⟨v, a, b⟩
theorem da_getV : ∀ {vs : List V} {ds : List PyData} {i : Nat} {v : V}, DpAll K H vs ds → vs[i]? = some v → ∃ d, ds[i]? = some d ∧ Dp K H v d
  | [], _, _, _, h, e => by simp at e
  | v0 :: vs, _, 0, v, h, e => by
    cases h with
    | cons h1 h2 =>
      have q : v0 = v := Option.some.inj e
      subst q
      exact ⟨_, rfl, h1⟩
  | v0 :: vs, _, i + 1, v, h, e => by
    cases h with
    | cons h1 h2 =>
      obtain ⟨d, a, b⟩ := da_getV h2 (i := i) (v := v) e
      exact ⟨d, a, b⟩
theorem da_app : ∀ {vs : List V} {ds : List PyData} {us : List V} {es : List PyData}, DpAll K H vs ds → DpAll K H us es → DpAll K H (vs ++ us) (ds ++ es)
  | [], _, _, _, h, g => by cases h; exact g
  | v :: vs, _, _, _, h, g => by
    cases h with
    | cons h1 h2 => exact .cons h1 (da_app h2 g)
theorem da_set {v : V} {d : PyData} (hd : Dp K H v d) : ∀ {vs : List V} {ds : List PyData} (j : Nat), DpAll K H vs ds → DpAll K H (vs.set j v) (ds.set j d)
  | [], _, _, h => by cases h; exact .nil
  | v0 :: vs, _, 0, h => by
    cases h with
    | cons h1 h2 => exact .cons hd h2
  | v0 :: vs, _, j + 1, h => by
    cases h with
    | cons h1 h2 => exact .cons h1 (da_set hd j h2)
theorem da_take : ∀ {vs : List V} {ds : List PyData} (j : Nat), DpAll K H vs ds → DpAll K H (vs.take j) (ds.take j)
  | _, _, 0, _ => by rw [List.take_zero, List.take_zero]; exact .nil
  | [], _, j + 1, h => by cases h; exact .nil
  | v0 :: vs, _, j + 1, h => by
    cases h with
    | cons h1 h2 => exact .cons h1 (da_take j h2)
theorem da_drop : ∀ {vs : List V} {ds : List PyData} (j : Nat), DpAll K H vs ds → DpAll K H (vs.drop j) (ds.drop j)
  | _, _, 0, h => h
  | [], _, j + 1, h => by cases h; exact .nil
  | v0 :: vs, _, j + 1, h => by
    cases h with
    | cons h1 h2 => exact da_drop j h2
end
def Dq (K : PySem.W.Frag) (G H : Hp) (v : V) (d : PyData) : Prop := Dp K G v d ∨ ∃ p vs ds, v = .ref p ∧ d = .list ds ∧ SqL K H p vs ∧ DpAll K G vs ds
section
variable {K : PySem.W.Frag} {G H : Hp} {v : V} {d : PyData}
theorem Dq.int {i : Int} (h : Dq K G H v (.int i)) : v = .int i := by
  rcases h with h | ⟨_, _, _, _, e, _⟩
  · cases h; rfl
  · cases e
theorem Dq.bl {i : Bool} (h : Dq K G H v (.bool i)) : v = .bl i := by
  rcases h with h | ⟨_, _, _, _, e, _⟩
  · cases h; rfl
  · cases e
theorem Dq.non (h : Dq K G H v .none) : v = .non := by
  rcases h with h | ⟨_, _, _, _, e, _⟩
  · cases h; rfl
  · cases e
theorem Dq.tup {ds : List PyData} (s : Same G H) (h : Dq K G H v (.tuple ds)) : ∃ a xs, v = .ref a ∧ SqT K H a xs ∧ DpAll K G xs ds := by
  rcases h with h | ⟨_, _, _, _, e, _⟩
  · cases h with
    | tup h1 h2 => exact ⟨_, _, rfl, .inl (.inl (s _ _ h1)), h2⟩
  · cases e
theorem Dq.lst {ds : List PyData} (s : Same G H) (h : Dq K G H v (.list ds)) : ∃ a xs, v = .ref a ∧ SqL K H a xs ∧ DpAll K G xs ds := by
  rcases h with h | ⟨p, vs, ds', e, e2, h1, h2⟩
  · cases h with
    | lst h1 h2 => exact ⟨_, _, rfl, sl_mono s h1, h2⟩
  · cases e2
    exact ⟨p, vs, e, h1, h2⟩
theorem Dq.dp (s : Same G H) (h : Dq K G H v d) : Dp K H v d := by
  rcases h with h | ⟨p, vs, ds', rfl, rfl, h1, h2⟩
  · exact Dp.up h s
  · exact .lst h1 (DpAll.up h2 s)
end
def KvOk (K : PySem.W.Frag) (G : Hp) : List (List Key × V) → List (List Int × PyData) → Prop
  | [], [] => True
  | p :: us, q :: kvs => p.1 = ky q.1 ∧ Dp K G p.2 q.2 ∧ KvOk K G us kvs
  | _, _ => False
def FvOk (K : PySem.W.Frag) (O : Addr → Prop) (H : Hp) (v : V) : Fv → Prop
  | .d x => Dp K (hid H O) v x
  | .l p xs => v = .ref p ∧ O p ∧ ∃ vs, H p = some (.lst vs) ∧ DpAll K (hid H O) vs xs
def FsOk (K : PySem.W.Frag) (O : Addr → Prop) (H : Hp) : List (Str × V) → List (Str × Fv) → Prop
  | [], [] => True
  | u :: us, f :: fs => u.1 = f.1 ∧ FvOk K O H u.2 f.2 ∧ FsOk K O H us fs
  | _, _ => False
structure ObAt (K : PySem.W.Frag) (O : Addr → Prop) (H : Hp) (o : Ob) : Prop where
  at_ : ∃ C us, PySem.W.nsIn K mainGlobals o.n = some (some (.ref C)) ∧ H o.a = some (.ins C o.dx us) ∧ FsOk K O H us o.fs
  oa : O o.a
  nd : o.ads.Nodup
structure Mk (K : PySem.W.Frag) (O : Addr → Prop) (δ : Dl) (σ : L2.St) (H : Hp) : Prop where
  m : ∀ (i : Nat) kvs, δ[i]? = some (Sl.m kvs) → ∃ a us, σ[i]? = some (some (V.ref a)) ∧ O a ∧ H a = some (.dT us) ∧ KvOk K (hid H O) us kvs
  i : ∀ (i j : Nat) ks ls a, δ[i]? = some (Sl.m ks) → δ[j]? = some (Sl.m ls) → σ[i]? = some (some (V.ref a)) → σ[j]? = some (some (V.ref a)) → i = j
  k : ∀ (i : Nat) ks, δ[i]? = some (Sl.k ks) → ∃ b, σ[i]? = some (some (V.ref b)) ∧ hid H O b = some (.tup ((ky ks).map kV))
  s : ∀ (i : Nat) o, δ[i]? = some (Sl.s o) → σ[i]? = some (some (V.ref o.a)) ∧ ObAt K O H o
  ss : ∀ (i j : Nat) o o' a, δ[i]? = some (Sl.s o) → δ[j]? = some (Sl.s o') → a ∈ o.ads → a ∈ o'.ads → i = j
  sj : ∀ (i j : Nat) (o : Ob) (xs : List PyData) (a : Addr), δ[i]? = some (Sl.s o) → δ[j]? = some (Sl.o xs) → σ[j]? = some (some (V.ref a)) → a ∉ o.ads
def noMk : Sl → Bool
  | .m _ => false
  | .k _ => false
  | .s _ => false
  | _ => true
def OwnS (δ : Dl) (a : Addr) : Prop := ∃ (i : Nat) (o : Ob), δ[i]? = some (Sl.s o) ∧ a ∈ o.ads
def Kept (δ : Dl) (H : Hp) (a : Addr) : Prop := (∃ us, H a = some (.dT us)) ∨ OwnS δ a
section
variable {K : PySem.W.Frag} {O O' : Addr → Prop} {δ δ' : Dl} {σ σ' : L2.St} {H H' : Hp}
theorem KvOk.up {G G' : Hp} (s : Same G G') : ∀ {us : List (List Key × V)} {kvs : List (List Int × PyData)}, KvOk K G us kvs → KvOk K G' us kvs
  | [], [], _ => trivial
  | _ :: _, _ :: _, ⟨h1, h2, h3⟩ => ⟨h1, Dp.up h2 s, KvOk.up s h3⟩
  | [], _ :: _, h => h.elim
  | _ :: _, [], h => h.elim
theorem FsOk.mv (sub : ∀ a, O a → O' a) (s : Same (hid H O) (hid H' O')) : ∀ {us : List (Str × V)} {fs : List (Str × Fv)}, FsOk K O H us fs → (∀ a, O a → a ∈ adsF fs → H' a = H a) → FsOk K O' H' us fs
  | [], [], _, _ => trivial
  | u :: us, (n, .d x) :: fs, ⟨h1, h2, h3⟩, f => ⟨h1, Dp.up h2 s, FsOk.mv sub s h3 f⟩
  | u :: us, (n, .l p xs) :: fs, ⟨h1, ⟨e, op, vs, hp, d⟩, h3⟩, f => ⟨h1, ⟨e, sub p op, vs, (f p op List.mem_cons_self).trans hp, DpAll.up d s⟩, FsOk.mv sub s h3 fun a oa m => f a oa (List.mem_cons_of_mem _ m)⟩
  | [], _ :: _, h, _ => h.elim
  | _ :: _, [], h, _ => h.elim
theorem ObAt.mv {o : Ob} (h : ObAt K O H o) (sub : ∀ a, O a → O' a) (s : Same (hid H O) (hid H' O')) (f : ∀ a, O a → a ∈ o.ads → H' a = H a) : ObAt K O' H' o := by
  obtain ⟨C, us, e1, e2, e3⟩ := h.at_
  exact ⟨⟨C, us, e1, (f _ h.oa List.mem_cons_self).trans e2, FsOk.mv sub s e3 fun a oa m => f a oa (List.mem_cons_of_mem _ m)⟩, sub _ h.oa, h.nd⟩
theorem FsOk.o : ∀ {us : List (Str × V)} {fs : List (Str × Fv)}, FsOk K O H us fs → ∀ a, a ∈ adsF fs → O a ∧ ∃ vs, H a = some (.lst vs)
  | [], [], _, a, m => (nomatch m)
  | u :: us, (n, .d x) :: fs, ⟨h1, h2, h3⟩, a, m => FsOk.o h3 a m
  | u :: us, (n, .l p xs) :: fs, ⟨h1, ⟨e, op, vs, hp, d⟩, h3⟩, a, m => by
    rcases List.mem_cons.mp m with rfl | m
    · exact ⟨op, vs, hp⟩
    · exact FsOk.o h3 a m
  | [], _ :: _, h, _, _ => h.elim
  | _ :: _, [], h, _, _ => h.elim
theorem ObAt.o {o : Ob} (h : ObAt K O H o) {a : Addr} (m : a ∈ o.ads) : O a ∧ ((∃ C us, H a = some (.ins C o.dx us)) ∨ ∃ vs, H a = some (.lst vs)) := by
  obtain ⟨C, us, e1, e2, e3⟩ := h.at_
  rcases List.mem_cons.mp m with rfl | m
  · exact ⟨h.oa, .inl ⟨C, us, e2⟩⟩
  · obtain ⟨h1, h2⟩ := FsOk.o e3 a m
    exact ⟨h1, .inr h2⟩
theorem FsOk.less (s : Same (hid H O) (hid H O')) : ∀ {us : List (Str × V)} {fs : List (Str × Fv)}, FsOk K O H us fs → (∀ a, a ∈ adsF fs → O' a) → FsOk K O' H us fs
  | [], [], _, _ => trivial
  | u :: us, (n, .d x) :: fs, ⟨h1, h2, h3⟩, f => ⟨h1, Dp.up h2 s, FsOk.less s h3 f⟩
  | u :: us, (n, .l p xs) :: fs, ⟨h1, ⟨e, op, vs, hp, d⟩, h3⟩, f => ⟨h1, ⟨e, f p List.mem_cons_self, vs, hp, DpAll.up d s⟩, FsOk.less s h3 fun a m => f a (List.mem_cons_of_mem _ m)⟩
  | [], _ :: _, h, _ => h.elim
  | _ :: _, [], h, _ => h.elim
theorem ObAt.less {o : Ob} (h : ObAt K O H o) (s : Same (hid H O) (hid H O')) (f : ∀ a, a ∈ o.ads → O' a) : ObAt K O' H o := by
  obtain ⟨C, us, e1, e2, e3⟩ := h.at_
  exact ⟨⟨C, us, e1, e2, FsOk.less s e3 fun a m => f a (List.mem_cons_of_mem _ m)⟩, f _ List.mem_cons_self, h.nd⟩
theorem Mk.oS (h : Mk K O δ σ H) {a : Addr} (z : OwnS δ a) : O a ∧ ((∃ C dx us, H a = some (.ins C dx us)) ∨ ∃ vs, H a = some (.lst vs)) := by
  obtain ⟨i, o, e, m⟩ := z
  obtain ⟨q1, q2⟩ := (h.s i o e).2.o m
  exact ⟨q1, q2.imp (fun ⟨C, us, q⟩ => ⟨C, _, us, q⟩) id⟩
theorem Mk.kept (h : Mk K O δ σ H) {a : Addr} (z : Kept δ H a) : ∃ o, H a = some o := by
  rcases z with ⟨us, e⟩ | z
  · exact ⟨_, e⟩
  · rcases (h.oS z).2 with ⟨_, _, _, e⟩ | ⟨_, e⟩ <;> exact ⟨_, e⟩
theorem Mk.mv (h : Mk K O δ σ H) (sub : ∀ a, O a → O' a) (s : Same (hid H O) (hid H' O')) (f : ∀ a, O a → Kept δ H a → H' a = H a) : Mk K O' δ σ H' := by
  refine ⟨fun i kvs e => ?_, h.i, fun i ks e => ?_, fun i o e => ?_, h.ss, h.sj⟩
  · obtain ⟨a, us, e1, z, e2, d⟩ := h.m i kvs e
    exact ⟨a, us, e1, sub a z, (f a z (.inl ⟨us, e2⟩)).trans e2, KvOk.up s d⟩
  · obtain ⟨b, e1, e2⟩ := h.k i ks e
    exact ⟨b, e1, s _ _ e2⟩
  · obtain ⟨e1, e2⟩ := h.s i o e
    exact ⟨e1, e2.mv sub s fun a oa m => f a oa (.inr ⟨i, o, e, m⟩)⟩
theorem Mk.at (h : Mk K O δ σ H) (g : ∀ (i : Nat) (s : Sl), noMk s = false → δ'[i]? = some s → δ[i]? = some s ∧ σ'[i]? = σ[i]?)
    (go : ∀ (j : Nat) (xs : List PyData) (a : Addr), δ'[j]? = some (Sl.o xs) → σ'[j]? = some (some (V.ref a)) → ¬ OwnS δ a) : Mk K O δ' σ' H := by
  refine ⟨fun i kvs e => ?_, fun i j ks ls a e1 e2 e3 e4 => ?_, fun i ks e => ?_, fun i o e => ?_, fun i j o o' a e1 e2 => h.ss i j o o' a (g i _ rfl e1).1 (g j _ rfl e2).1, fun i j o xs a e1 e2 e3 m => go j xs a e2 e3 ⟨i, o, (g i _ rfl e1).1, m⟩⟩
  · obtain ⟨e1, e2⟩ := g i _ rfl e
    rw [e2]; exact h.m i kvs e1
  · obtain ⟨q1, q2⟩ := g i _ rfl e1
    obtain ⟨q3, q4⟩ := g j _ rfl e2
    rw [q2] at e3
    rw [q4] at e4
    exact h.i i j ks ls a q1 q3 e3 e4
  · obtain ⟨e1, e2⟩ := g i _ rfl e
    rw [e2]; exact h.k i ks e1
  · obtain ⟨e1, e2⟩ := g i _ rfl e
    rw [e2]; exact h.s i o e1
theorem Mk.noS (h : Mk K O δ σ H) {j : Nat} {xs : List PyData} {a : Addr} (e : δ[j]? = some (Sl.o xs)) (e2 : σ[j]? = some (some (V.ref a))) : ¬ OwnS δ a := fun ⟨i, o, q, m⟩ => h.sj i j o xs a q e e2 m
theorem Mk.none (g : ∀ (i : Nat) (s : Sl), δ[i]? = some s → noMk s = true) : Mk K O δ σ H :=
  ⟨fun i kvs e => (nomatch (g i _ e)), fun i j ks ls a e => (nomatch (g i _ e)), fun i ks e => (nomatch (g i _ e)), fun i o e => (nomatch (g i _ e)), fun i j o o' a e => (nomatch (g i _ e)), fun i j o xs a e => (nomatch (g i _ e))⟩
theorem Mk.put (h : Mk K O δ σ H) {j : Nat} {s : Sl} {v : Option V} (n : noMk s = true) (hO : ∀ xs a, s = Sl.o xs → v = some (V.ref a) → ¬ OwnS δ a := by intro _ _ z; cases z) : Mk K O (δ.set j s) (σ.set j v) H := h.at (fun i t nt e => by
  by_cases q : j = i
  · subst q
    rw [List.getElem?_set] at e
    rw [if_pos rfl] at e
    split at e
    · cases e; rw [n] at nt; cases nt
    · cases e
  · rw [List.getElem?_set_ne q] at e ⊢
    exact ⟨e, rfl⟩) fun i xs a e e2 => by
  by_cases q : j = i
  · subst q
    rw [List.getElem?_set, if_pos rfl] at e e2
    split at e
    · split at e2
      · exact hO xs a (Option.some.inj e) (Option.some.inj e2)
      · cases e2
    · cases e
  · rw [List.getElem?_set_ne q] at e e2
    exact h.noS e e2
theorem Mk.putd (h : Mk K O δ σ H) {j : Nat} {s : Sl} (n : noMk s = true) (hO : (∃ xs, s = Sl.o xs) → ∃ ys, δ[j]? = some (Sl.o ys) := by rintro ⟨_, z⟩; cases z) : Mk K O (δ.set j s) σ H := h.at (fun i t nt e => by
  by_cases q : j = i
  · subst q
    rw [List.getElem?_set] at e
    rw [if_pos rfl] at e
    split at e
    · cases e; rw [n] at nt; cases nt
    · cases e
  · rw [List.getElem?_set_ne q] at e
    exact ⟨e, rfl⟩) fun i xs a e e2 => by
  by_cases q : j = i
  · subst q
    rw [List.getElem?_set, if_pos rfl] at e
    split at e
    · obtain ⟨ys, y⟩ := hO ⟨xs, Option.some.inj e⟩
      exact h.noS y e2
    · cases e
  · rw [List.getElem?_set_ne q] at e
    exact h.noS e e2
end
structure Rep (K : PySem.W.Frag) (O : Addr → Prop) (δ : Dl) (σ : L2.St) (H : Hp) : Prop where
  len : δ.length = σ.length
  dat : ∀ (i : Nat) (x : PyData), δ[i]? = some (Sl.d x) → ∃ v, σ[i]? = some (some v) ∧ Dp K (hid H O) v x
  lst : ∀ (i : Nat) (xs : List PyData), δ[i]? = some (Sl.o xs) → ∃ a vs, σ[i]? = some (some (V.ref a)) ∧ O a ∧ H a = some (.lst vs) ∧ DpAll K (hid H O) vs xs
  inj : ∀ (i j : Nat) (xs ys : List PyData) (a : Addr), δ[i]? = some (Sl.o xs) → δ[j]? = some (Sl.o ys) → σ[i]? = some (some (V.ref a)) → σ[j]? = some (some (V.ref a)) → i = j
  occ : ∀ a, O a → ∃ o, H a = some o
  ex : Mk K O δ σ H
def OwnL (δ : Dl) (σ : L2.St) (a : Addr) : Prop := ∃ (i : Nat) (xs : List PyData), δ[i]? = some (Sl.o xs) ∧ σ[i]? = some (some (V.ref a))
def Own (δ : Dl) (σ : L2.St) (a : Addr) : Prop := OwnL δ σ a ∨ OwnS δ a
def Sl.like : Sl → Sl → Prop
  | Sl.s x, Sl.s y => y.ads = x.ads
  | x, y => x = y
theorem Sl.like_refl (x : Sl) : x.like x := by cases x <;> exact rfl
theorem Sl.like_s {x : Sl} {y : Ob} (h : x.like (Sl.s y)) : ∃ z, x = Sl.s z ∧ y.ads = z.ads := by
  cases x <;> first | exact ⟨_, rfl, h⟩ | cases (show _ = _ from h)
theorem Sl.like_e {x y : Sl} (h : x.like y) (n : ∀ o, y ≠ Sl.s o) : x = y := by
  cases x <;> cases y <;> first | exact h | exact absurd rfl (n _)
theorem Sl.like_trans {a b c : Sl} (h : a.like b) (g : b.like c) : a.like c := by
  by_cases q : ∃ o, c = Sl.s o
  · obtain ⟨o, rfl⟩ := q
    obtain ⟨z, rfl, e⟩ := Sl.like_s g
    obtain ⟨y, rfl, e2⟩ := Sl.like_s h
    exact e.trans e2
  · have e := Sl.like_e g fun o z => q ⟨o, z⟩
    subst e
    exact h
structure Stp (O : Addr → Prop) (δ δ' : Dl) (σ : L2.St) (H H' : Hp) : Prop where
  same : Same (hid H O) (hid H' O)
  frame : ∀ a, O a → ¬ Own δ σ a → H' a = H a
  own : ∀ (i : Nat), (∃ xs, δ'[i]? = some (Sl.o xs)) ↔ (∃ xs, δ[i]? = some (Sl.o xs))
  dat : ∀ (i : Nat) (x : PyData), δ'[i]? = some (Sl.d x) ↔ δ[i]? = some (Sl.d x)
  dct : ∀ (i : Nat) s', noMk s' = false → δ'[i]? = some s' → ∃ s, δ[i]? = some s ∧ s.like s'
def still (r : Rv) (δ : Dl) (p : Prop) : Prop := match r with
  | .b i xs => δ[i]? = some (Sl.o xs) ∧ p
  | _ => p
def RvOk (K : PySem.W.Frag) (O : Addr → Prop) (σ : L2.St) (δ' : Dl) (H H' : Hp) (v : V) : Rv → Prop
  | .b i xs => δ'[i]? = some (Sl.o xs) ∧ σ[i]? = some (some v)
  | .d x => Dp K (hid H' O) v x
  | .l xs => ∃ p vs, v = .ref p ∧ H p = none ∧ H' p = some (.lst vs) ∧ DpAll K (hid H' fun a => O a ∨ a = p) vs xs ∧ Rep K (fun a => O a ∨ a = p) δ' σ H'
section
variable {K : PySem.W.Frag} {O : Addr → Prop} {δ δ1 δ2 : Dl} {σ : L2.St} {H H1 H2 : Hp} {v : V} {r : Rv}
theorem dct_refl : ∀ (i : Nat) s', noMk s' = false → δ[i]? = some s' → ∃ s, δ[i]? = some s ∧ s.like s' := fun _ s _ e => ⟨s, e, s.like_refl⟩
theorem Stp.refl : Stp O δ δ σ H H := ⟨Same.refl _, fun _ _ _ => rfl, fun _ => Iff.rfl, fun _ _ => Iff.rfl, dct_refl⟩
theorem Stp.dm (s : Stp O δ δ1 σ H H1) (i : Nat) (kvs : List (List Int × PyData)) (e : δ1[i]? = some (Sl.m kvs)) : δ[i]? = some (Sl.m kvs) := by
  obtain ⟨x, q, l⟩ := s.dct i _ rfl e
  rw [Sl.like_e l fun o z => nomatch z] at q
  exact q
theorem Stp.ds (s : Stp O δ δ1 σ H H1) {i : Nat} {o' : Ob} (e : δ1[i]? = some (Sl.s o')) : ∃ o, δ[i]? = some (Sl.s o) ∧ o'.ads = o.ads := by
  obtain ⟨x, q, l⟩ := s.dct i _ rfl e
  obtain ⟨z, rfl, w⟩ := Sl.like_s l
  exact ⟨z, q, w⟩
theorem Stp.ownL (s : Stp O δ δ1 σ H H1) {a : Addr} (h : OwnL δ1 σ a) : OwnL δ σ a := by
  obtain ⟨i, xs, e1, e2⟩ := h
  obtain ⟨ys, e⟩ := (s.own i).mp ⟨xs, e1⟩
  exact ⟨i, ys, e, e2⟩
theorem Stp.ownS (s : Stp O δ δ1 σ H H1) {a : Addr} (h : OwnS δ1 a) : OwnS δ a := by
  obtain ⟨i, o, e1, e2⟩ := h
  obtain ⟨z, q, w⟩ := s.ds e1
  exact ⟨i, z, q, by rw [← w]; exact e2⟩
theorem Stp.ownI (s : Stp O δ δ1 σ H H1) {a : Addr} (h : Own δ1 σ a) : Own δ σ a := h.imp s.ownL s.ownS
theorem OwnL.own {a : Addr} (h : OwnL δ σ a) : Own δ σ a := .inl h
theorem Rep.notOwn (R : Rep K O δ σ H) {p : Addr} (h : H p = none) : ¬ Own δ σ p := fun z => by
  have op : O p := by
    rcases z with ⟨j, ys, e1, e2⟩ | z
    · obtain ⟨a, us, e3, z, _⟩ := R.lst j ys e1
      rw [e3] at e2; cases e2
      exact z
    · exact (R.ex.oS z).1
  obtain ⟨o, e⟩ := R.occ p op
  rw [h] at e; cases e
theorem Rep.notKept (R : Rep K O δ σ H) {i : Nat} {xs : List PyData} {a b : Addr} (e : δ[i]? = some (Sl.o xs)) (ea : σ[i]? = some (some (V.ref a))) (k : Kept δ H b) : b ≠ a := fun z => by
  subst z
  rcases k with ⟨us, q⟩ | k
  · obtain ⟨a', vs', e1, _, e2, _⟩ := R.lst i xs e
    rw [ea] at e1; cases e1
    rw [q] at e2; cases e2
  · exact R.ex.noS e ea k
theorem Stp.trans (a : Stp O δ δ1 σ H H1) (b : Stp O δ1 δ2 σ H1 H2) : Stp O δ δ2 σ H H2 :=
  ⟨a.same.trans b.same, fun x hx n => (b.frame x hx fun z => n (a.ownI z)).trans (a.frame x hx n), fun i => (b.own i).trans (a.own i), fun i x => (b.dat i x).trans (a.dat i x), fun i x n z => by
    obtain ⟨y, q, l⟩ := b.dct i x n z
    have ny : noMk y = false := by
      by_cases w : ∃ o, x = Sl.s o
      · obtain ⟨o, rfl⟩ := w
        obtain ⟨z, rfl, _⟩ := Sl.like_s l
        rfl
      · rw [Sl.like_e l fun o z => w ⟨o, z⟩]; exact n
    obtain ⟨u, q2, l2⟩ := a.dct i y ny q
    exact ⟨u, q2, Sl.like_trans l2 l⟩⟩
theorem Rep.fresh (R : Rep K O δ σ H) {p : Addr} (h : H p = none) : ¬ O p := fun z => by
  obtain ⟨o, e⟩ := R.occ p z
  rw [h] at e; cases e
theorem fresh_back (R : Rep K O δ σ H) (R1 : Rep K O δ1 σ H1) (s : Stp O δ δ1 σ H H1) {p : Addr} (h : H1 p = none) : H p = none := by
  cases q : H p with
  | none => rfl
  | some o =>
    have n := R1.fresh h
    have := s.same p o (by rw [hid_no n]; exact q)
    rw [hid_no n, h] at this; cases this
theorem RvOk.back (R : Rep K O δ σ H) (R1 : Rep K O δ1 σ H1) (s : Stp O δ δ1 σ H H1) (h : RvOk K O σ δ2 H1 H2 v r) : RvOk K O σ δ2 H H2 v r := by
  cases r with
  | d x => exact h
  | b i xs => exact h
  | l xs =>
    obtain ⟨p, vs, e1, n, e, ha, hr⟩ := h
    exact ⟨p, vs, e1, fresh_back R R1 s n, e, ha, hr⟩
theorem Rep.laid (R : Rep K O δ σ H) {p : Addr} {o : HO} (h : H p = none) : Rep K O δ σ (upd H p o) := by
  refine ⟨R.len, fun i x e => ?_, fun i xs e => ?_, R.inj, fun a z => ?_, R.ex.mv (fun _ z => z) (hid_new h) fun a _ e => by obtain ⟨u, e⟩ := R.ex.kept e; exact upd_ne (ne_of_none e h)⟩
  · obtain ⟨v, e1, d⟩ := R.dat i x e
    exact ⟨v, e1, Dp.up d (hid_new h)⟩
  · obtain ⟨a, vs, e1, z, e2, d⟩ := R.lst i xs e
    exact ⟨a, vs, e1, z, by rw [upd_ne (ne_of_none e2 h)]; exact e2, DpAll.up d (hid_new h)⟩
  · obtain ⟨u, e⟩ := R.occ a z
    exact ⟨u, by rw [upd_ne (ne_of_none e h)]; exact e⟩
theorem hid_newO {p : Addr} {o : HO} (h : H p = none) : Same (hid H O) (hid (upd H p o) fun a => O a ∨ a = p) := fun b x e => by
  obtain ⟨n, e⟩ := hid_some e
  have ne : b ≠ p := ne_of_none e h
  rw [hid_no (fun z => z.elim n ne), upd_ne ne]; exact e
theorem Rep.laidO (R : Rep K O δ σ H) {p : Addr} {o : HO} (h : H p = none) : Rep K (fun a => O a ∨ a = p) δ σ (upd H p o) := by
  refine ⟨R.len, fun i x e => ?_, fun i xs e => ?_, R.inj, fun a z => ?_, R.ex.mv (fun _ z => .inl z) (hid_newO h) fun a _ e => by obtain ⟨u, e⟩ := R.ex.kept e; exact upd_ne (ne_of_none e h)⟩
  · obtain ⟨v, e1, d⟩ := R.dat i x e
    exact ⟨v, e1, Dp.up d (hid_newO h)⟩
  · obtain ⟨a, vs, e1, z, e2, d⟩ := R.lst i xs e
    exact ⟨a, vs, e1, .inl z, by rw [upd_ne (ne_of_none e2 h)]; exact e2, DpAll.up d (hid_newO h)⟩
  · by_cases q : a = p
    · exact ⟨o, by rw [q, upd_same]⟩
    · obtain ⟨u, e⟩ := R.occ a (z.resolve_right q)
      exact ⟨u, by rw [upd_ne q]; exact e⟩
theorem Stp.laid (R : Rep K O δ σ H) {p : Addr} {o : HO} (h : H p = none) : Stp O δ δ σ H (upd H p o) :=
  ⟨hid_new h, fun a z _ => by obtain ⟨u, e⟩ := R.occ a z; rw [upd_ne (ne_of_none e h)], fun _ => Iff.rfl, fun _ _ => Iff.rfl, dct_refl⟩
end
def lift (K : PySem.W.Frag) (w : WE) : TE := fun σ H Q => ∃ O δ P, Rep K O δ σ H ∧ w δ P ∧ ∀ r δ' v H', P r δ' → Stp O δ δ' σ H H' → Rep K O δ' σ H' → RvOk K O σ δ' H H' v r → Q v H'
def DE (X : Cx) (e : Expr) (w : WE) : Prop := PE X e (lift X.K w)
theorem pe_weak {X : Cx} {e : Expr} {t t' : TE} (h : PE X e t) (f : ∀ σ H Q, t' σ H Q → t σ H Q) : PE X e t' := ⟨fun pins s σ H Q I q => h.run pins s σ H Q I (f σ H Q q)⟩
section
variable {X : Cx} {a b c : Expr} {wa wb wc : WE} {pos : Pos}
def wC (x : PyData) : WE := fun δ P => P (.d x) δ
theorem de_int {i : Int} {j} : DE X (.Constant (.int i) j pos) (wC (.int i)) := pe_weak pe_int fun σ H Q ⟨O, δ, P, R, w, f⟩ => f _ _ _ _ w Stp.refl R (.int i)
theorem de_bl {b : Bool} {j} : DE X (.Constant (.bool b) j pos) (wC (.bool b)) := pe_weak pe_bl fun σ H Q ⟨O, δ, P, R, w, f⟩ => f _ _ _ _ w Stp.refl R (.bl b)
theorem de_non {j} : DE X (.Constant .none j pos) (wC .none) := pe_weak pe_non fun σ H Q ⟨O, δ, P, R, w, f⟩ => f _ _ _ _ w Stp.refl R .non
theorem de_str {x : Str} {j} : DE X (.Constant (.str x) j pos) (wC (.str x)) := pe_weak pe_str fun σ H Q ⟨O, δ, P, R, w, f⟩ => f _ _ _ _ w Stp.refl R (.str x)
theorem de_globI {x : Str} {i : Int} {t : Tok} (hg : Gl X x) (hm : X.mg x = some (.int i t)) (hd : (x == ("__debug__" : Str)) = false := by decide) : DE X (.Name x pos) (wC (.int i)) :=
  pe_weak (pe_glob hg hm (v := .int i) ⟨t, rfl⟩ hd) fun σ H Q ⟨O, δ, P, R, w, f⟩ => f _ _ _ _ w Stp.refl R (.int i)
def wV (i : Nat) : WE := fun δ P => match δ[i]? with
  | some (.d x) => P (.d x) δ
  | some (.o xs) => P (.b i xs) δ
  | _ => False
theorem de_v (i : Nat) {x : Str} (hN : X.N[i]? = some x := by rfl) (hv : Vis X.env.scope x := by first | exact Or.inl rfl | exact Or.inr (Or.inl rfl) | exact Or.inr (Or.inr rfl)) (hd : (x == ("__debug__" : Str)) = false := by decide)
    (hcd : (x == ("__classdict__" : Str)) = false := by decide) : DE X (.Name x pos) (wV i) := by
  refine pe_weak (pe_var hN hv hd hcd) fun σ H Q ⟨O, δ, P, R, w, f⟩ => ?_
  unfold wV at w
  split at w
  · rename_i x e
    obtain ⟨v, e1, d⟩ := R.dat i x e
    exact ⟨v, e1, f _ _ _ _ w Stp.refl R d⟩
  · rename_i xs e
    obtain ⟨a, vs, e1, z, e2, d⟩ := R.lst i xs e
    exact ⟨_, e1, f _ _ _ _ w Stp.refl R ⟨e, e1⟩⟩
  · exact w.elim
theorem held {K : PySem.W.Frag} {O : Addr → Prop} {δ δ1 δ2 : Dl} {σ : L2.St} {H H1 H2 : Hp} {v : V} {r : Rv} {p : Prop} (R0 : Rep K O δ σ H) (k : RvOk K O σ δ1 H H1 v r) (s : Same (hid H1 O) (hid H2 O)) (R2 : Rep K O δ2 σ H2) (h : still r δ2 p) :
    Dq K (hid H2 O) H2 v r.as ∧ p := by
  cases r with
  | d x => exact ⟨.inl (Dp.up k s), h⟩
  | l xs =>
    obtain ⟨p, vs, rfl, n, e, ha, hr⟩ := k
    refine ⟨.inl (Dp.up (.lst (.inl (.inl ?_)) (DpAll.up ha (hid_sub fun a z => .inl z))) s), h⟩
    rw [hid_no (R0.fresh n)]; exact e
  | b i xs =>
    obtain ⟨e, h⟩ := h
    obtain ⟨a, vs, e1, z, e2, d⟩ := R2.lst i xs e
    have q := k.2
    rw [e1] at q
    cases q
    exact ⟨.inr ⟨a, vs, xs, rfl, rfl, .inl (.inl e2), d⟩, h⟩
theorem held0 {K : PySem.W.Frag} {O : Addr → Prop} {δ δ1 : Dl} {σ : L2.St} {H H1 : Hp} {v : V} {r : Rv} (R0 : Rep K O δ σ H) (k : RvOk K O σ δ1 H H1 v r) (R1 : Rep K O δ1 σ H1) : Dq K (hid H1 O) H1 v r.as := by
  refine (held (p := True) R0 k (Same.refl _) R1 ?_).1
  cases r with
  | d x => trivial
  | l xs => trivial
  | b i xs => exact ⟨k.1, trivial⟩
def Fin (K : PySem.W.Frag) (G H : Hp) (P : Rv → Prop) (Q : VK) : Prop :=
  (∀ v z, P (.d z) → Dp K G v z → Q v H) ∧ (∀ zs vs p, P (.l zs) → DpAll K G vs zs → H p = none → Q (.ref p) (upd H p (.lst vs))) ∧ (∀ zs vs p, P (.d (.tuple zs)) → DpAll K G vs zs → H p = none → Q (.ref p) (upd H p (.tup vs)))
theorem fin_of {K : PySem.W.Frag} {O : Addr → Prop} {δ δ2 : Dl} {σ : L2.St} {H H2 : Hp} {P : Rv → Dl → Prop} {Q : VK} (R0 : Rep K O δ σ H) (s : Stp O δ δ2 σ H H2) (R : Rep K O δ2 σ H2) (f : ∀ r δ' v H', P r δ' → Stp O δ δ' σ H H' → Rep K O δ' σ H' → RvOk K O σ δ' H H' v r → Q v H') :
    Fin K (hid H2 O) H2 (fun r => P r δ2) Q := by
  refine ⟨fun v z pz dz => f _ _ _ _ pz s R dz, fun zs vs p pz dz hp => ?_, fun zs vs p pz dz hp => ?_⟩
  · exact f _ _ _ _ pz (s.trans (Stp.laid R hp)) (R.laid hp) ⟨p, vs, rfl, fresh_back R0 R s hp, upd_same, DpAll.up dz (hid_newO hp), R.laidO hp⟩
  · refine f _ _ _ _ pz (s.trans (Stp.laid R hp)) (R.laid hp) (.tup ?_ (DpAll.up dz (hid_new hp)))
    rw [hid_no (R.fresh hp)]; exact upd_same
abbrev R2D := PyData → PyData → (Rv → Prop) → Prop
def w2 (R : R2D) (wa wb : WE) : WE := fun δ P => wa δ fun r δ1 => wb δ1 fun s δ2 => still r δ2 (R r.as s.as fun z => P z δ2)
def OpD (K : PySem.W.Frag) (r : R2) (R : R2D) : Prop :=
  ∀ (G H : Hp) (x y : V) (d e : PyData) (P : Rv → Prop) (Q : VK), Dq K G H x d → Dq K G H y e → Same G H → R d e P → Fin K G H P Q → r x y H Q
theorem lift2 {K : PySem.W.Frag} {r : R2} {R : R2D} (h : OpD K r R) {σ : L2.St} {H : Hp} {Q : VK} (q : lift K (w2 R wa wb) σ H Q) : tOp r (lift K wa) (lift K wb) σ H Q := by
  obtain ⟨O, δ, P, R0, w, f⟩ := q
  refine ⟨O, δ, _, R0, w, fun r1 δ1 v1 H1 w1 s1 R1 k1 => ?_⟩
  refine ⟨O, δ1, _, R1, w1, fun r2 δ2 v2 H2 w2 s2 R2 k2 => ?_⟩
  obtain ⟨d1, w2⟩ := held R0 k1 s2.same R2 w2
  have d2 := held0 R1 k2 R2
  exact h (hid H2 O) H2 v1 v2 _ _ _ _ d1 d2 hid_le w2 (fin_of R0 (s1.trans s2) R2 f)
theorem de_op {op : Operator} {r : R2} {R : R2D} (ho : OpR X (binaryOp op) r) (hd : OpD X.K r R) (ha : DE X a wa) (hb : DE X b wb) : DE X (.BinOp a op b pos) (w2 R wa wb) :=
  pe_weak (pe_op ho ha hb) fun _ _ _ => lift2 hd
theorem de_cmp {op : CmpOp} {r : R2} {R : R2D} (ho : OpR X (compareOp op) r) (hd : OpD X.K r R) (ha : DE X a wa) (hb : DE X b wb) (hm : behindInMarks op b = false) : DE X (.Compare a [op] [b] pos) (w2 R wa wb) :=
  pe_weak (pe_cmpR ho ha hb hm) fun _ _ _ => lift2 hd
theorem de_ixg {r : R2} {R : R2D} (ho : IxR X r) (hd : OpD X.K r R) (ha : DE X a wa) (hb : DE X b wb) (hs : PlainIx b) : DE X (.Subscript a b pos) (w2 R wa wb) :=
  pe_weak (pe_ix ho ha hb hs) fun _ _ _ => lift2 hd
def rI2 (C : Int → Int → Prop) (g : Int → Int → PyData) : R2D := fun d e P => match d, e with
  | .int i, .int j => C i j ∧ P (.d (g i j))
  | _, _ => False
theorem opd_I {K : PySem.W.Frag} {C : Int → Int → Prop} {g : Int → Int → V} {gd : Int → Int → PyData} (h : ∀ G i j, Dp K G (g i j) (gd i j)) : OpD K (rI C g) (rI2 C gd) := by
  intro G H x y d e P Q hx hy _ r f
  unfold rI2 at r
  split at r
  · exact ⟨_, _, hx.int, hy.int, r.1, f.1 _ _ r.2 (h _ _ _)⟩
  · exact r.elim
def rI1 (g : Int → Int → PyData) : R2D := fun d e P => match d, e with
  | .int i, .int j => P (.d (g i j))
  | _, _ => False
theorem opd_I0 {K : PySem.W.Frag} {g : Int → Int → V} {gd : Int → Int → PyData} (h : ∀ G i j, Dp K G (g i j) (gd i j)) : OpD K (rI0 g) (rI1 gd) := by
  intro G H x y d e P Q hx hy _ r f
  unfold rI1 at r
  split at r
  · exact ⟨_, _, hx.int, hy.int, f.1 _ _ r (h _ _ _)⟩
  · exact r.elim
abbrev rAddD : R2D := rI1 fun i j => .int (i + j)
abbrev rSubD : R2D := rI1 fun i j => .int (i - j)
abbrev rMulD : R2D := rI2 CMul fun i j => .int (i * j)
abbrev rDivD : R2D := rI2 CDiv fun i j => .int (i / j)
abbrev rModD : R2D := rI2 (fun _ j => 0 < j) fun i j => .int (i % j)
abbrev rPowD : R2D := rI2 CPow fun i j => .int (i ^ j.toNat)
abbrev rLtD : R2D := rI1 fun i j => .bool (decide (i < j))
abbrev rLeD : R2D := rI1 fun i j => .bool (decide (i ≤ j))
abbrev rGtD : R2D := rI1 fun i j => .bool (decide (j < i))
abbrev rGeD : R2D := rI1 fun i j => .bool (decide (j ≤ i))
theorem de_add (ha : DE X a wa) (hb : DE X b wb) : DE X (.BinOp a .Add b pos) (w2 (rI1 fun i j => .int (i + j)) wa wb) := de_op op_add (opd_I0 fun _ _ _ => .int _) ha hb
theorem de_sub (ha : DE X a wa) (hb : DE X b wb) : DE X (.BinOp a .Sub b pos) (w2 (rI1 fun i j => .int (i - j)) wa wb) := de_op op_sub (opd_I0 fun _ _ _ => .int _) ha hb
theorem de_mul (ha : DE X a wa) (hb : DE X b wb) : DE X (.BinOp a .Mult b pos) (w2 (rI2 CMul fun i j => .int (i * j)) wa wb) := de_op op_mul (opd_I fun _ _ _ => .int _) ha hb
theorem de_fdiv (ha : DE X a wa) (hb : DE X b wb) : DE X (.BinOp a .FloorDiv b pos) (w2 (rI2 CDiv fun i j => .int (i / j)) wa wb) := de_op op_fdiv (opd_I fun _ _ _ => .int _) ha hb
theorem de_mod (ha : DE X a wa) (hb : DE X b wb) : DE X (.BinOp a .Mod b pos) (w2 (rI2 (fun _ j => 0 < j) fun i j => .int (i % j)) wa wb) := de_op op_mod (opd_I fun _ _ _ => .int _) ha hb
theorem de_pow (ha : DE X a wa) (hb : DE X b wb) : DE X (.BinOp a .Pow b pos) (w2 (rI2 CPow fun i j => .int (i ^ j.toNat)) wa wb) := de_op op_pow (opd_I fun _ _ _ => .int _) ha hb
theorem de_lt (ha : DE X a wa) (hb : DE X b wb) : DE X (.Compare a [.Lt] [b] pos) (w2 (rI1 fun i j => .bool (decide (i < j))) wa wb) := de_cmp op_lt (opd_I0 fun _ _ _ => .bl _) ha hb (nomark _)
theorem de_le (ha : DE X a wa) (hb : DE X b wb) : DE X (.Compare a [.LtE] [b] pos) (w2 (rI1 fun i j => .bool (decide (i ≤ j))) wa wb) := de_cmp op_le (opd_I0 fun _ _ _ => .bl _) ha hb (nomark _)
def eqOk : PyData → PyData → Bool
  | .str _, .str _ => true
  | d, e => SeqAt.shaped d && SeqAt.shaped e
def rEqT : R2D := fun d e P => eqOk d e = true ∧ P (.d (.bool (PyData.eqv d e)))
def rNeT : R2D := fun d e P => eqOk d e = true ∧ P (.d (.bool (!PyData.eqv d e)))
theorem Dq.str {K : PySem.W.Frag} {G H : Hp} {v : V} {x : Str} (h : Dq K G H v (.str x)) : v = .str x := by
  rcases h with h | ⟨_, _, _, _, e, _⟩
  · cases h; rfl
  · cases e
theorem eqOk_ways {d e : PyData} (h : eqOk d e = true) : (∃ x y, d = .str x ∧ e = .str y) ∨ (SeqAt.shaped d = true ∧ SeqAt.shaped e = true) := by
  cases d <;> cases e <;> first
    | exact .inl ⟨_, _, rfl, rfl⟩
    | exact .inr (Bool.and_eq_true_iff.mp h)
theorem opd_eq {K : PySem.W.Frag} : OpD K (fun x y H Q => rEqD K x y H Q ∨ rEq x y H Q) rEqT := by
  intro G H x y d e P Q hx hy s r f
  rcases eqOk_ways r.1 with ⟨a, b, rfl, rfl⟩ | ⟨h1, h2⟩
  · rw [hx.str, hy.str]
    refine .inr ⟨rfl, f.1 _ _ r.2 ?_⟩
    rw [dec_str, show PyData.eqv (.str a) (.str b) = (a == b) by unfold PyData.eqv; rfl]
    exact .bl _
  · exact .inl ⟨d, e, (hx.dp s).shaped h1, (hy.dp s).shaped h2, h1, h2, f.1 _ _ r.2 (.bl _)⟩
theorem opd_ne {K : PySem.W.Frag} : OpD K (fun x y H Q => rNeD K x y H Q ∨ rNe x y H Q) rNeT := by
  intro G H x y d e P Q hx hy s r f
  rcases eqOk_ways r.1 with ⟨a, b, rfl, rfl⟩ | ⟨h1, h2⟩
  · rw [hx.str, hy.str]
    refine .inr ⟨rfl, f.1 _ _ r.2 ?_⟩
    rw [dec_str, show PyData.eqv (.str a) (.str b) = (a == b) by unfold PyData.eqv; rfl]
    exact .bl _
  · exact .inl ⟨d, e, (hx.dp s).shaped h1, (hy.dp s).shaped h2, h1, h2, f.1 _ _ r.2 (.bl _)⟩
theorem de_eq (hu : X.A.units + 64 < cLine) (ha : DE X a wa) (hb : DE X b wb) : DE X (.Compare a [.Eq] [b] pos) (w2 rEqT wa wb) := de_cmp ((op_eqD hu).or op_eq) opd_eq ha hb (nomark _)
def isNo : PyData → Bool
  | .none => true
  | _ => false
def rIsT (neg : Bool) : R2D := fun d e P => match e with
  | .none => P (.d (.bool (if neg then !isNo d else isNo d)))
  | _ => False
theorem dp_non {K : PySem.W.Frag} {G : Hp} {x : V} {d : PyData} (h : Dp K G x d) : decide (x = .non) = isNo d := by cases h <;> simp [isNo]
def flat : PyData → Bool
  | .none => true
  | .bool _ => true
  | .int _ => true
  | .str _ => true
  | _ => false
def inD (x : PyData) (xs : List PyData) : Bool := xs.any fun y => PyData.eqv y x
def rInT (neg : Bool) : R2D := fun d e P => match e with
  | .tuple xs => (flat d = true ∧ xs.all flat = true) ∧ P (.d (.bool (if neg then !inD d xs else inD d xs)))
  | .list xs => (flat d = true ∧ xs.all flat = true) ∧ P (.d (.bool (if neg then !inD d xs else inD d xs)))
  | _ => False
theorem dp_flat {K : PySem.W.Frag} {G : Hp} {x : V} {d : PyData} (h : Dp K G x d) (f : flat d = true) : flatV x = true := by cases h <;> first | rfl | cases f
theorem dp_eqv {K : PySem.W.Frag} {G : Hp} {x y : V} {d e : PyData} (h : Dp K G x d) (g : Dp K G y e) (f : flat d = true) (f2 : flat e = true) : eqV x y = PyData.eqv d e := by
  cases h <;> cases g <;> first | rfl | (unfold PyData.eqv; rfl) | cases f | cases f2
theorem da_flat {K : PySem.W.Frag} {G : Hp} : ∀ {xs : List V} {ds : List PyData}, DpAll K G xs ds → ds.all flat = true → xs.all flatV = true
  | [], _, h, _ => rfl
  | v :: vs, _, h, f => by
    cases h with
    | cons h1 h2 =>
      rw [List.all_cons, Bool.and_eq_true] at f ⊢
      exact ⟨dp_flat h1 f.1, da_flat h2 f.2⟩
theorem da_in {K : PySem.W.Frag} {G : Hp} {x : V} {d : PyData} (hx : Dp K G x d) (fx : flat d = true) : ∀ {xs : List V} {ds : List PyData}, DpAll K G xs ds → ds.all flat = true → inV x xs = inD d ds
  | [], _, h, _ => by cases h; rfl
  | v :: vs, _, h, f => by
    cases h with
    | cons h1 h2 =>
      rw [List.all_cons, Bool.and_eq_true] at f
      show (eqV v x || inV x vs) = (PyData.eqv _ d || inD d _)
      rw [dp_eqv h1 hx f.1 fx, da_in hx fx h2 f.2]
theorem opd_in {K : PySem.W.Frag} {neg : Bool} : OpD K (rIn K neg) (rInT neg) := by
  intro G H x y d e P Q hx hy s r f
  unfold rInT at r
  split at r
  · obtain ⟨p, xs, rfl, hs, ha⟩ := hy.tup s
    have hx := hx.dp s
    have ha := DpAll.up ha s
    refine ⟨_, _, rfl, .inr hs, dp_flat hx r.1.1, da_flat ha r.1.2, f.1 _ _ r.2 ?_⟩
    rw [da_in hx r.1.1 ha r.1.2]; exact .bl _
  · obtain ⟨p, xs, rfl, hs, ha⟩ := hy.lst s
    have hx := hx.dp s
    have ha := DpAll.up ha s
    refine ⟨_, _, rfl, .inl hs, dp_flat hx r.1.1, da_flat ha r.1.2, f.1 _ _ r.2 ?_⟩
    rw [da_in hx r.1.1 ha r.1.2]; exact .bl _
  · exact r.elim
theorem de_notin (ha : DE X a wa) (hb : DE X b wb) (hm : behindInMarks .NotIn b = false := by rfl) : DE X (.Compare a [.NotIn] [b] pos) (w2 (rInT true) wa wb) := de_cmp op_notIn_seq opd_in ha hb hm
def rIxD : R2D := fun d e P => match d, e with
  | .tuple xs, .int i => match atI xs i with
    | some z => P (.d z)
    | none => False
  | .list xs, .int i => match atI xs i with
    | some z => P (.d z)
    | none => False
  | _, _ => False
theorem atI_dp {K : PySem.W.Frag} {G : Hp} {xs : List V} {ds : List PyData} (h : DpAll K G xs ds) {i : Int} {z : PyData} (e : atI ds i = some z) : ∃ v, atI xs i = some v ∧ Dp K G v z := by
  unfold atI at e ⊢
  rw [da_len h]
  cases q : ixN ds.length i with
  | none => rw [q] at e; cases e
  | some j =>
    rw [q] at e
    exact da_get h (i := j) e
theorem de_ix (ha : DE X a wa) (hb : DE X b wb) (hs : PlainIx b := by exact fun _ _ => rfl) : DE X (.Subscript a b pos) (w2 rIxD wa wb) := de_ixg (ix_list.or ix_tup) (by
  intro G H x y d e P Q hx hy s r f
  unfold rIxD at r
  split at r
  · split at r
    · rename_i e
      obtain ⟨p, xs, rfl, hq, ha⟩ := hx.tup s
      obtain ⟨v, e1, dv⟩ := atI_dp ha e
      exact .inr ⟨_, _, _, v, rfl, hy.int, hq, e1, f.1 _ _ r dv⟩
    · exact r.elim
  · split at r
    · rename_i e
      obtain ⟨p, xs, rfl, hq, ha⟩ := hx.lst s
      obtain ⟨v, e1, dv⟩ := atI_dp ha e
      exact .inl ⟨_, _, _, v, rfl, hy.int, hq, e1, f.1 _ _ r dv⟩
    · exact r.elim
  · exact r.elim) ha hb hs
end
end Dw
namespace Dw
open PySem PySem.Spec PyProof.Rows L2
section
variable {X : Cx} {a b c e : Expr} {wa wb wc we : WE} {pos : Pos} {es rest : List Expr}
abbrev WT := Dl → (Bool → Dl → Prop) → Prop
def liftT (K : PySem.W.Frag) (w : WT) : TT := fun σ H Q => ∃ O δ P, Rep K O δ σ H ∧ w δ P ∧ ∀ r δ' H', P r δ' → Stp O δ δ' σ H H' → Rep K O δ' σ H' → Q r H'
def DT (X : Cx) (e : Expr) (w : WT) : Prop := PT X e (liftT X.K w)
def DW (X : Cx) (e : Expr) (w : WT) : Prop := PW X e (liftT X.K w)
theorem pt_weak {t t' : TT} (h : PT X e t) (f : ∀ σ H Q, t' σ H Q → t σ H Q) : PT X e t' := ⟨fun pins s σ H Q I q => h.run pins s σ H Q I (f σ H Q q)⟩
theorem pw_weak {t t' : TT} (h : PW X e t) (f : ∀ σ H Q, t' σ H Q → t σ H Q) : PW X e t' := ⟨fun wh pins s σ H Q I q => h.run wh pins s σ H Q I (f σ H Q q)⟩
def wB (w : WE) : WT := fun δ P => w δ fun r δ1 => match r with
  | .d (.bool k) => P k δ1
  | _ => False
theorem liftB {K : PySem.W.Frag} {w : WE} {σ : L2.St} {H : Hp} {Q : Bool → Hp → Prop} (q : liftT K (wB w) σ H Q) : lift K w σ H (fun x H1 => ∃ k, x = .bl k ∧ Q k H1) := by
  obtain ⟨O, δ, P, R0, w, f⟩ := q
  refine ⟨O, δ, _, R0, w, fun r δ1 v H1 w1 s1 R1 k1 => ?_⟩
  cases r with
  | l xs => exact w1.elim
  | b i xs => exact w1.elim
  | d x =>
    cases x <;> first | exact False.elim w1 | skip
    rename_i k
    have k1 : Dp K (hid H1 O) v (.bool k) := k1
    cases k1
    exact ⟨k, rfl, f _ _ _ w1 s1 R1⟩
theorem dt_cmp2 {op : CmpOp} {r : R2} {R : R2D} (ho : OpR X (compareOp op) r) (hd : OpD X.K r R) (ha : DE X a wa) (hb : DE X b wb) (hm : behindInMarks op b = false) : DT X (.Compare a [op] [b] pos) (wB (w2 R wa wb)) :=
  pt_weak (pt_cmpR ho ha hb hm) fun _ _ _ q => lift2 hd (liftB q)
theorem dt_lt (ha : DE X a wa) (hb : DE X b wb) : DT X (.Compare a [.Lt] [b] pos) (wB (w2 (rI1 fun i j => .bool (decide (i < j))) wa wb)) := dt_cmp2 op_lt (opd_I0 fun _ _ _ => .bl _) ha hb (nomark _)
theorem dt_gt (ha : DE X a wa) (hb : DE X b wb) : DT X (.Compare a [.Gt] [b] pos) (wB (w2 (rI1 fun i j => .bool (decide (j < i))) wa wb)) := dt_cmp2 op_gt (opd_I0 fun _ _ _ => .bl _) ha hb (nomark _)
theorem dt_eq (hu : X.A.units + 64 < cLine) (ha : DE X a wa) (hb : DE X b wb) : DT X (.Compare a [.Eq] [b] pos) (wB (w2 rEqT wa wb)) := dt_cmp2 ((op_eqD hu).or op_eq) opd_eq ha hb (nomark _)
theorem dt_ne (hu : X.A.units + 64 < cLine) (ha : DE X a wa) (hb : DE X b wb) : DT X (.Compare a [.NotEq] [b] pos) (wB (w2 rNeT wa wb)) := dt_cmp2 ((op_neD hu).or op_ne) opd_ne ha hb (nomark _)
theorem opd_is {K : PySem.W.Frag} : OpD K (fun x y H Q => y = .non ∧ Q (.bl (decide (x = .non))) H) (rIsT false) := by
  intro G H x y d e P Q hx hy s r f
  unfold rIsT at r
  split at r
  · refine ⟨hy.non, f.1 _ _ r ?_⟩
    rw [dp_non (hx.dp s)]; exact .bl _
  · exact r.elim
theorem dt_is (ha : DE X a wa) (hb : DE X b wb) : DT X (.Compare a [.Is] [b] pos) (wB (w2 (rIsT false) wa wb)) := dt_cmp2 op_isN opd_is ha hb (nomark _)
theorem dt_in (ha : DE X a wa) (hb : DE X b wb) (hm : behindInMarks .In b = false := by rfl) : DT X (.Compare a [.In] [b] pos) (wB (w2 (rInT false) wa wb)) := dt_cmp2 op_in_seq opd_in ha hb hm
theorem dt_notin (ha : DE X a wa) (hb : DE X b wb) (hm : behindInMarks .NotIn b = false := by rfl) : DT X (.Compare a [.NotIn] [b] pos) (wB (w2 (rInT true) wa wb)) := dt_cmp2 op_notIn_seq opd_in ha hb hm
def truD : PyData → Option Bool
  | .none => some false
  | .bool b => some b
  | .int i => some (i != 0)
  | .list xs => some (!xs.isEmpty)
  | .tuple xs => some (!xs.isEmpty)
  | _ => none
def wTru (w : WE) : WT := fun δ P => w δ fun r δ1 => match truD r.as with
  | some k => P k δ1
  | none => False
theorem da_empty {K : PySem.W.Frag} {G : Hp} {vs : List V} {ds : List PyData} (h : DpAll K G vs ds) : vs.isEmpty = ds.isEmpty := by cases h <;> rfl
theorem dt_truth (h : DE X e we) (he : ∀ whole, isTrue e X.env whole = (do let v ← whole; standAt e.pos; holding [v] (truthy v)) := by intro _; rfl) : DT X e (wTru we) := by
  refine pt_weak (pt_truth h he) fun σ H Q q => ?_
  obtain ⟨O, δ, P, R0, w, f⟩ := q
  refine ⟨O, δ, _, R0, w, fun r δ1 v H1 w1 s1 R1 k1 => ?_⟩
  have dq := held0 R0 k1 R1
  split at w1
  · rename_i k e
    refine ⟨k, ?_, f _ _ _ w1 s1 R1⟩
    cases q : r.as with
    | none => rw [q] at dq e; cases e; rw [dq.non]; exact rfl
    | bool i => rw [q] at dq e; cases e; rw [dq.bl]; exact rfl
    | int i => rw [q] at dq e; cases e; rw [dq.int]; exact rfl
    | str i => rw [q] at e; cases e
    | dict i => rw [q] at e; cases e
    | list ds =>
      rw [q] at dq e; cases e
      obtain ⟨p, xs, rfl, h1, h2⟩ := dq.lst hid_le
      exact .inl ⟨xs, h1, by rw [da_empty h2]⟩
    | tuple ds =>
      rw [q] at dq e; cases e
      obtain ⟨p, xs, rfl, h1, h2⟩ := dq.tup hid_le
      exact .inr (.inl ⟨xs, h1, by rw [da_empty h2]⟩)
  · exact w1.elim
def wAndT (t u : WT) : WT := fun δ P => t δ fun k δ1 => if k = true then u δ1 P else P false δ1
def wOrT (t u : WT) : WT := fun δ P => t δ fun k δ1 => if k = true then P true δ1 else u δ1 P
def wNotT (t : WT) : WT := fun δ P => t δ fun k δ1 => P (!k) δ1
variable {ta tb tc : WT}
theorem lift_and {K : PySem.W.Frag} {σ : L2.St} {H : Hp} {Q : Bool → Hp → Prop} (q : liftT K (wAndT ta tb) σ H Q) : tAnd (liftT K ta) (liftT K tb) σ H Q := by
  obtain ⟨O, δ, P, R0, w, f⟩ := q
  refine ⟨O, δ, _, R0, w, fun k δ1 H1 w1 s1 R1 => ?_⟩
  cases k with
  | true => exact ⟨O, δ1, P, R1, w1, fun r δ2 H2 w2 s2 R2 => f _ _ _ w2 (s1.trans s2) R2⟩
  | false => exact f _ _ _ w1 s1 R1
theorem lift_or {K : PySem.W.Frag} {σ : L2.St} {H : Hp} {Q : Bool → Hp → Prop} (q : liftT K (wOrT ta tb) σ H Q) : tOr (liftT K ta) (liftT K tb) σ H Q := by
  obtain ⟨O, δ, P, R0, w, f⟩ := q
  refine ⟨O, δ, _, R0, w, fun k δ1 H1 w1 s1 R1 => ?_⟩
  cases k with
  | false => exact ⟨O, δ1, P, R1, w1, fun r δ2 H2 w2 s2 R2 => f _ _ _ w2 (s1.trans s2) R2⟩
  | true => exact f _ _ _ w1 s1 R1
theorem dw_and1 (h : DT X a ta) : DW X (.BoolOp .And [a] pos) ta := pw_and1 h
theorem dw_or1 (h : DT X a ta) : DW X (.BoolOp .Or [a] pos) ta := pw_or1 h
theorem dw_and (h : DT X a ta) (h2 : DW X (.BoolOp .And (b :: rest) pos) tb) : DW X (.BoolOp .And (a :: b :: rest) pos) (wAndT ta tb) := pw_weak (pw_and h h2) fun _ _ _ => lift_and
theorem dw_or (h : DT X a ta) (h2 : DW X (.BoolOp .Or (b :: rest) pos) tb) : DW X (.BoolOp .Or (a :: b :: rest) pos) (wOrT ta tb) := pw_weak (pw_or h h2) fun _ _ _ => lift_or
theorem dt_w (h : DW X e ta) : DT X e ta := PW.pt h
theorem dt_not (h : DT X a ta) : DT X (.UnaryOp .Not a pos) (wNotT ta) := by
  refine pt_weak (pt_not h) fun σ H Q q => ?_
  obtain ⟨O, δ, P, R0, w, f⟩ := q
  exact ⟨O, δ, _, R0, w, fun k δ1 H1 w1 s1 R1 => f _ _ _ w1 s1 R1⟩
def wAndV (wa wb : WE) : WE := fun δ P => wa δ fun r δ1 => match r with
  | .d (.bool k) => if k = true then wb δ1 P else P (.d (.bool false)) δ1
  | _ => False
def wOrV (wa wb : WE) : WE := fun δ P => wa δ fun r δ1 => match r with
  | .d (.bool k) => if k = true then P (.d (.bool true)) δ1 else wb δ1 P
  | _ => False
def wNotV (wa : WE) : WE := fun δ P => wa δ fun r δ1 => match r with
  | .d (.bool k) => P (.d (.bool (!k))) δ1
  | _ => False
theorem de_one {op} (h : DE X a wa) : DE X (.BoolOp op [a] pos) wa := pe_one h
theorem de_and (ha : DE X a wa) (hb : DE X (.BoolOp .And (b :: rest) pos) wb) : DE X (.BoolOp .And (a :: b :: rest) pos) (wAndV wa wb) := by
  refine pe_weak (pe_and ha hb) fun σ H Q ⟨O, δ, P, R0, w, f⟩ => ?_
  refine ⟨O, δ, _, R0, w, fun r δ1 v H1 w1 s1 R1 k1 => ?_⟩
  cases r with
  | l xs => exact w1.elim
  | b i xs => exact w1.elim
  | d x =>
    cases x <;> first | exact False.elim w1 | skip
    rename_i k
    have k1 : Dp X.K (hid H1 O) v (.bool k) := k1
    cases k1
    refine ⟨k, rfl, ?_⟩
    cases k with
    | true => exact ⟨O, δ1, P, R1, w1, fun r δ2 v H2 w2 s2 R2 k2 => f _ _ _ _ w2 (s1.trans s2) R2 (RvOk.back R0 R1 s1 k2)⟩
    | false => exact f _ _ _ _ w1 s1 R1 (.bl false)
theorem de_not (ha : DE X a wa) : DE X (.UnaryOp .Not a pos) (wNotV wa) := by
  refine pe_weak (pe_not ha) fun σ H Q ⟨O, δ, P, R0, w, f⟩ => ?_
  refine ⟨O, δ, _, R0, w, fun r δ1 v H1 w1 s1 R1 k1 => ?_⟩
  cases r with
  | l xs => exact w1.elim
  | b i xs => exact w1.elim
  | d x =>
    cases x <;> first | exact False.elim w1 | skip
    rename_i k
    have k1 : Dp X.K (hid H1 O) v (.bool k) := k1
    cases k1
    exact ⟨k, rfl, f _ _ _ _ w1 s1 R1 (.bl _)⟩
def wIf (t : WT) (wa wb : WE) : WE := fun δ P => t δ fun k δ1 => if k = true then wa δ1 P else wb δ1 P
theorem de_if (hc : DT X c tc) (ha : DE X a wa) (hb : DE X b wb) : DE X (.IfExp c a b pos) (wIf tc wa wb) := by
  refine pe_weak (pe_ifExp hc ha hb) fun σ H Q ⟨O, δ, P, R0, w, f⟩ => ?_
  refine ⟨O, δ, _, R0, w, fun k δ1 H1 w1 s1 R1 => ?_⟩
  cases k with
  | true => exact ⟨O, δ1, P, R1, w1, fun r δ2 v H2 w2 s2 R2 k2 => f _ _ _ _ w2 (s1.trans s2) R2 (RvOk.back R0 R1 s1 k2)⟩
  | false => exact ⟨O, δ1, P, R1, w1, fun r δ2 v H2 w2 s2 R2 k2 => f _ _ _ _ w2 (s1.trans s2) R2 (RvOk.back R0 R1 s1 k2)⟩
def wNeg (wa : WE) : WE := fun δ P => wa δ fun r δ1 => match r with
  | .d (.int k) => P (.d (.int (-k))) δ1
  | _ => False
theorem de_neg (ha : DE X a wa) : DE X (.UnaryOp .USub a pos) (wNeg wa) := by
  refine pe_weak (pe_un un_neg ha) fun σ H Q ⟨O, δ, P, R0, w, f⟩ => ?_
  refine ⟨O, δ, _, R0, w, fun r δ1 v H1 w1 s1 R1 k1 => ?_⟩
  cases r with
  | l xs => exact w1.elim
  | b i xs => exact w1.elim
  | d x =>
    cases x <;> first | exact False.elim w1 | skip
    rename_i k
    have k1 : Dp X.K (hid H1 O) v (.int k) := k1
    cases k1
    exact ⟨k, rfl, f _ _ _ _ w1 s1 R1 (.int _)⟩
def wChain (R R' : R2D) (wa wb wc : WE) : WE := fun δ P => wa δ fun r δ1 => wb δ1 fun s δ2 => still r δ2 (R r.as s.as fun z => match z with
  | .d (.bool k) => if k = true then wc δ2 fun u δ3 => still s δ3 (R' s.as u.as fun z => P z δ3) else P (.d (.bool false)) δ2
  | _ => False)
theorem lift_chain {K : PySem.W.Frag} {r r' : R2} {R R' : R2D} (h : OpD K r R) (h' : OpD K r' R') {σ : L2.St} {H : Hp} {Q : VK} (q : lift K (wChain R R' wa wb wc) σ H Q) : tChain r r' (lift K wa) (lift K wb) (lift K wc) σ H Q := by
  obtain ⟨O, δ, P, R0, w, f⟩ := q
  refine ⟨O, δ, _, R0, w, fun r1 δ1 v1 H1 w1 s1 R1 k1 => ?_⟩
  refine ⟨O, δ1, _, R1, w1, fun r2 δ2 v2 H2 w2 s2 R2 k2 => ?_⟩
  obtain ⟨d1, w2⟩ := held R0 k1 s2.same R2 w2
  have d2 := held0 R1 k2 R2
  refine h (hid H2 O) H2 v1 v2 _ _ _ _ d1 d2 hid_le w2 ⟨fun v z pz dz => ?_, fun zs vs p pz => pz.elim, fun zs vs p pz => pz.elim⟩
  cases z <;> first | exact False.elim pz | skip
  rename_i k
  cases dz
  refine ⟨k, rfl, ?_⟩
  cases k with
  | false => exact f _ _ _ _ pz (s1.trans s2) R2 (.bl false)
  | true =>
    refine ⟨O, δ2, _, R2, pz, fun r3 δ3 v3 H3 w3 s3 R3 k3 => ?_⟩
    obtain ⟨d2, w3⟩ := held R1 k2 s3.same R3 w3
    exact h' (hid H3 O) H3 v2 v3 _ _ _ _ d2 (held0 R2 k3 R3) hid_le w3 (fin_of R0 ((s1.trans s2).trans s3) R3 f)
theorem de_chain {op op' : CmpOp} {r r' : R2} {R R' : R2D} (ho : OpR X (compareOp op) r) (hd : OpD X.K r R) (ho' : OpR X (compareOp op') r') (hd' : OpD X.K r' R') (ha : DE X a wa) (hb : DE X b wb) (hc : DE X c wc)
    (hm : lastMarks [op, op'] [b, c] = false := by with_unfolding_all rfl) : DE X (.Compare a [op, op'] [b, c] pos) (wChain R R' wa wb wc) := pe_weak (pe_chain ho ho' ha hb hc hm) fun _ _ _ => lift_chain hd hd'
theorem de_lele (ha : DE X a wa) (hb : DE X b wb) (hc : DE X c wc) (hm : lastMarks [.LtE, .LtE] [b, c] = false := by with_unfolding_all rfl) : DE X (.Compare a [.LtE, .LtE] [b, c] pos) (wChain (rI1 fun i j => .bool (decide (i ≤ j))) (rI1 fun i j => .bool (decide (i ≤ j))) wa wb wc) :=
  de_chain op_le (opd_I0 fun _ _ _ => .bl _) op_le (opd_I0 fun _ _ _ => .bl _) ha hb hc hm
abbrev WA := Dl → (List Rv → Dl → Prop) → Prop
def stillAll : List Rv → Dl → Prop → Prop
  | [], _, p => p
  | r :: rs, δ, p => still r δ (stillAll rs δ p)
inductive DqAll (K : PySem.W.Frag) (G H : Hp) : List V → List PyData → Prop
  | nil : DqAll K G H [] []
  | cons {v : V} {vs : List V} {d : PyData} {ds : List PyData} : Dq K G H v d → DqAll K G H vs ds → DqAll K G H (v :: vs) (d :: ds)
def RvsOk (K : PySem.W.Frag) (O : Addr → Prop) (σ : L2.St) (δ' : Dl) (H H' : Hp) : List V → List Rv → Prop
  | [], [] => True
  | v :: vs, r :: rs => (∃ δ1 H1, RvOk K O σ δ1 H H1 v r ∧ Same (hid H1 O) (hid H' O)) ∧ RvsOk K O σ δ' H H' vs rs
  | _, _ => False
def liftA (K : PySem.W.Frag) (w : WA) : TA := fun σ H Q => ∃ O δ P, Rep K O δ σ H ∧ w δ P ∧ ∀ rs δ' vs H', P rs δ' → Stp O δ δ' σ H H' → Rep K O δ' σ H' → RvsOk K O σ δ' H H' vs rs → Q vs H'
def DA (X : Cx) (es : List Expr) (w : WA) : Prop := PA X es (liftA X.K w)
theorem pa_weak {t t' : TA} (h : PA X es t) (f : ∀ σ H Q, t' σ H Q → t σ H Q) : PA X es t' := ⟨fun pos pins s σ H Q I q => h.run pos pins s σ H Q I (f σ H Q q)⟩
theorem RvsOk.back {K : PySem.W.Frag} {O : Addr → Prop} {δ δ1 δ2 : Dl} {σ : L2.St} {H H1 H2 : Hp} (R : Rep K O δ σ H) (R1 : Rep K O δ1 σ H1) (s : Stp O δ δ1 σ H H1) : ∀ {vs : List V} {rs : List Rv}, RvsOk K O σ δ2 H1 H2 vs rs → RvsOk K O σ δ2 H H2 vs rs
  | [], [], _ => trivial
  | v :: vs, r :: rs, h => by
    obtain ⟨⟨δ3, H3, h1, h2⟩, h3⟩ := h
    exact ⟨⟨δ3, H3, RvOk.back R R1 s h1, h2⟩, RvsOk.back R R1 s h3⟩
theorem RvsOk.dq {K : PySem.W.Frag} {O : Addr → Prop} {δ δ2 : Dl} {σ : L2.St} {H H2 : Hp} {p : Prop} (R : Rep K O δ σ H) (R2 : Rep K O δ2 σ H2) : ∀ {vs : List V} {rs : List Rv}, RvsOk K O σ δ2 H H2 vs rs → stillAll rs δ2 p → DqAll K (hid H2 O) H2 vs (rs.map Rv.as) ∧ p
  | [], [], _, q => ⟨.nil, q⟩
  | v :: vs, r :: rs, h, q => by
    obtain ⟨⟨δ3, H3, h1, h2⟩, h3⟩ := h
    obtain ⟨d, q⟩ := held R h1 h2 R2 q
    obtain ⟨ds, q⟩ := RvsOk.dq R R2 h3 q
    exact ⟨.cons d ds, q⟩
def noB : Rv → Bool
  | .b _ _ => false
  | _ => true
theorem RvsOk.dp {K : PySem.W.Frag} {O : Addr → Prop} {δ δ2 : Dl} {σ : L2.St} {H H2 : Hp} (R : Rep K O δ σ H) (R2 : Rep K O δ2 σ H2) : ∀ {vs : List V} {rs : List Rv}, RvsOk K O σ δ2 H H2 vs rs → rs.all noB = true → DpAll K (hid H2 O) vs (rs.map Rv.as)
  | [], [], _, q => .nil
  | v :: vs, r :: rs, h, q => by
    obtain ⟨⟨δ3, H3, h1, h2⟩, h3⟩ := h
    rw [List.all_cons, Bool.and_eq_true] at q
    refine .cons ?_ (RvsOk.dp R R2 h3 q.2)
    cases r with
    | d x => exact Dp.up h1 h2
    | l xs =>
      obtain ⟨p, vs, rfl, n, e, ha, hr⟩ := h1
      refine Dp.up (.lst (.inl (.inl ?_)) (DpAll.up ha (hid_sub fun a z => .inl z))) h2
      rw [hid_no (R.fresh n)]; exact e
    | b i xs => cases q.1
def wNil : WA := fun δ P => P [] δ
def wCons (w : WE) (u : WA) : WA := fun δ P => w δ fun r δ1 => u δ1 fun rs δ2 => P (r :: rs) δ2
variable {ua : WA}
theorem da_nil : DA X [] wNil := pa_weak pa_nil fun σ H Q ⟨O, δ, P, R0, w, f⟩ => f _ _ _ _ w Stp.refl R0 trivial
theorem da_cons (h : DE X e we) (hr : DA X es ua) (hs : starEach (e :: es) X.env = (false, eval e X.env) :: starEach es X.env := by rfl) : DA X (e :: es) (wCons we ua) := by
  refine pa_weak (pa_cons h hr hs) fun σ H Q ⟨O, δ, P, R0, w, f⟩ => ?_
  refine ⟨O, δ, _, R0, w, fun r1 δ1 v1 H1 w1 s1 R1 k1 => ?_⟩
  refine ⟨O, δ1, _, R1, w1, fun rs δ2 vs H2 w2 s2 R2 k2 => ?_⟩
  exact f _ _ _ _ w2 (s1.trans s2) R2 ⟨⟨δ1, H1, k1, s2.same⟩, RvsOk.back R0 R1 s1 k2⟩
def wTup (u : WA) : WE := fun δ P => u δ fun rs δ1 => (rs.all noB = true ∧ rs.length ≤ 1000) ∧ P (.d (.tuple (rs.map Rv.as))) δ1
def wLst (u : WA) : WE := fun δ P => u δ fun rs δ1 => (rs.all noB = true ∧ rs.length ≤ 1000) ∧ P (.l (rs.map Rv.as)) δ1
theorem RvsOk.len {K : PySem.W.Frag} {O : Addr → Prop} {δ2 : Dl} {σ : L2.St} {H H2 : Hp} : ∀ {vs : List V} {rs : List Rv}, RvsOk K O σ δ2 H H2 vs rs → vs.length = rs.length
  | [], [], _ => rfl
  | v :: vs, r :: rs, h => by simp [RvsOk.len h.2]
theorem de_tup {x1} (h : DA X es ua) : DE X (.Tuple es x1 pos) (wTup ua) := by
  refine pe_weak (pe_tup h) fun σ H Q ⟨O, δ, P, R0, w, f⟩ => ?_
  refine ⟨O, δ, _, R0, w, fun rs δ1 vs H1 w1 s1 R1 k1 => ?_⟩
  obtain ⟨⟨q1, q2⟩, w1⟩ := w1
  refine ⟨Nat.le_of_lt (small1000 (by rw [RvsOk.len k1]; exact q2)), fun p hp => ?_⟩
  exact (fin_of R0 s1 R1 f).2.2 _ _ p w1 (RvsOk.dp R0 R1 k1 q1) hp
theorem de_lst (h : DA X es ua) : DE X (.List es pos) (wLst ua) := by
  refine pe_weak (pe_lst h) fun σ H Q ⟨O, δ, P, R0, w, f⟩ => ?_
  refine ⟨O, δ, _, R0, w, fun rs δ1 vs H1 w1 s1 R1 k1 => ?_⟩
  obtain ⟨⟨q1, q2⟩, w1⟩ := w1
  refine ⟨Nat.le_of_lt (small1000 (by rw [RvsOk.len k1]; exact q2)), fun p hp => ?_⟩
  exact (fin_of R0 s1 R1 f).2.1 _ _ p w1 (RvsOk.dp R0 R1 k1 q1) hp
abbrev RCD := List PyData → (Rv → Prop) → Prop
def wCB (R : RCD) (u : WA) : WE := fun δ P => u δ fun rs δ1 => stillAll rs δ1 (R (rs.map Rv.as) fun z => P z δ1)
def CallD (K : PySem.W.Frag) (r : List V → Hp → VK → Prop) (R : RCD) : Prop :=
  ∀ (G H : Hp) (xs : List V) (ds : List PyData) (P : Rv → Prop) (Q : VK), DqAll K G H xs ds → Same G H → R ds P → Fin K G H P Q → r xs H Q
theorem liftCB {K : PySem.W.Frag} {r : List V → Hp → VK → Prop} {R : RCD} (h : CallD K r R) {σ : L2.St} {H : Hp} {Q : VK} (q : lift K (wCB R ua) σ H Q) : tCB r (liftA K ua) σ H Q := by
  obtain ⟨O, δ, P, R0, w, f⟩ := q
  refine ⟨O, δ, _, R0, w, fun rs δ1 vs H1 w1 s1 R1 k1 => ?_⟩
  obtain ⟨dq, w1⟩ := RvsOk.dq R0 R1 k1 w1
  exact h (hid H1 O) H1 vs _ _ _ dq hid_le w1 (fin_of R0 s1 R1 f)
variable {x : Str} {p : Pos} {idn T : String} {r : List V → Hp → VK → Prop} {R : RCD}
theorem de_cb (hc : CallR X (.builtin idn) r) (hd : CallD X.K r R) (hg : Gl X x) (hm : X.mg x = none) (hv : bootBuiltins x = some (.builtin idn)) (ha : DA X (e :: es) ua) (hn : x ≠ "__name__" := by decide) (hdb : (x == ("__debug__" : Str)) = false := by decide)
    (he : starEach (e :: es) X.env = (false, eval e X.env) :: starEach es X.env := by rfl) (hpl : (backTo pos (starEach es X.env)).any (·.1) = false := by rfl) : DE X (.Call (.Name x p) (e :: es) [] pos) (wCB R ua) :=
  pe_weak (pe_callB hc hg hm hv ha hn hdb he hpl) fun _ _ _ => liftCB hd
theorem de_cty (hc : CallR X (.type T) r) (hd : CallD X.K r R) (hg : Gl X x) (hm : X.mg x = none) (hv : bootBuiltins x = some (.type T)) (ha : DA X (e :: es) ua) (hn : x ≠ "__name__" := by decide) (hdb : (x == ("__debug__" : Str)) = false := by decide)
    (he : starEach (e :: es) X.env = (false, eval e X.env) :: starEach es X.env := by rfl) (hpl : (backTo pos (starEach es X.env)).any (·.1) = false := by rfl) : DE X (.Call (.Name x p) (e :: es) [] pos) (wCB R ua) :=
  pe_weak (pe_callTy hc hg hm hv ha hn hdb he hpl) fun _ _ _ => liftCB hd
theorem dq1 {K : PySem.W.Frag} {G H : Hp} {xs : List V} {d : PyData} (h : DqAll K G H xs [d]) : ∃ v, xs = [v] ∧ Dq K G H v d := by
  cases h with
  | cons h1 h2 => cases h2; exact ⟨_, rfl, h1⟩
theorem dq2 {K : PySem.W.Frag} {G H : Hp} {xs : List V} {d e : PyData} (h : DqAll K G H xs [d, e]) : ∃ v u, xs = [v, u] ∧ Dq K G H v d ∧ Dq K G H u e := by
  cases h with
  | cons h1 h2 =>
    obtain ⟨u, rfl, h3⟩ := dq1 h2
    exact ⟨_, _, rfl, h1, h3⟩
def rLenD : RCD := fun ds P => match ds with
  | [.list xs] => P (.d (.int xs.length))
  | [.tuple xs] => P (.d (.int xs.length))
  | _ => False
theorem cd_len {K : PySem.W.Frag} : CallD K (fun xs H Q => ∃ p ys, xs = [.ref p] ∧ (SqL K H p ys ∨ SqT K H p ys) ∧ Q (.int ys.length) H) rLenD := by
  intro G H xs ds P Q h s r f
  unfold rLenD at r
  split at r
  · obtain ⟨v, rfl, hd⟩ := dq1 h
    obtain ⟨a, ys, rfl, h1, h2⟩ := hd.lst s
    exact ⟨a, ys, rfl, .inl h1, f.1 _ _ r (by rw [da_len h2]; exact .int _)⟩
  · obtain ⟨v, rfl, hd⟩ := dq1 h
    obtain ⟨a, ys, rfl, h1, h2⟩ := hd.tup s
    exact ⟨a, ys, rfl, .inr h1, f.1 _ _ r (by rw [da_len h2]; exact .int _)⟩
  · exact r.elim
theorem de_len (hg : Gl X "len") (hm : X.mg "len" = none) (ha : DA X [e] ua) (he : starEach [e] X.env = (false, eval e X.env) :: starEach [] X.env := by rfl) : DE X (.Call (.Name "len" p) [e] [] pos) (wCB rLenD ua) :=
  de_cb call_len_seq cd_len hg hm PySem.boot_len ha (he := he)
def rTupleD : RCD := fun ds P => match ds with
  | [.list xs] => P (.d (.tuple xs))
  | [.tuple xs] => P (.d (.tuple xs))
  | _ => False
theorem cd_tuple {K : PySem.W.Frag} : CallD K (fun xs H Q => ∃ p ys, xs = [.ref p] ∧ ((SqL K H p ys ∧ ∀ l, H l = none → Q (.ref l) (upd H l (.tup ys))) ∨ (SqT K H p ys ∧ Q (.ref p) H))) rTupleD := by
  intro G H xs ds P Q h s r f
  unfold rTupleD at r
  split at r
  · obtain ⟨v, rfl, hd⟩ := dq1 h
    obtain ⟨a, ys, rfl, h1, h2⟩ := hd.lst s
    exact ⟨a, ys, rfl, .inl ⟨h1, fun l hl => f.2.2 _ _ l r h2 hl⟩⟩
  · obtain ⟨v, rfl, hd⟩ := dq1 h
    obtain ⟨a, ys, e, h1, h2⟩ := hd.tup s
    rcases hd with h | ⟨_, _, _, _, q, _⟩
    · subst e
      exact ⟨a, ys, rfl, .inr ⟨h1, f.1 _ _ r h⟩⟩
    · cases q
  · exact r.elim
theorem de_tuple (hg : Gl X "tuple") (hm : X.mg "tuple" = none) (ha : DA X [e] ua) (he : starEach [e] X.env = (false, eval e X.env) :: starEach [] X.env := by rfl) : DE X (.Call (.Name "tuple" p) [e] [] pos) (wCB rTupleD ua) :=
  de_cty call_tuple_of cd_tuple hg hm (by decide +kernel) ha (he := he)
def rListD : RCD := fun ds P => match ds with
  | [.list xs] => P (.l xs)
  | [.tuple xs] => P (.l xs)
  | _ => False
def rMax2D : RCD := fun ds P => match ds with
  | [.int i, .int j] => P (.d (.int (if j > i then j else i)))
  | _ => False
def rMin2D : RCD := fun ds P => match ds with
  | [.int i, .int j] => P (.d (.int (if j < i then j else i)))
  | _ => False
theorem cd_max2 {K : PySem.W.Frag} : CallD K (fun xs H Q => ∃ i j, xs = [.int i, .int j] ∧ Q (.int (if j > i then j else i)) H) rMax2D := by
  intro G H xs ds P Q h s r f
  unfold rMax2D at r
  split at r
  · obtain ⟨v, u, rfl, h1, h2⟩ := dq2 h
    exact ⟨_, _, by rw [h1.int, h2.int], f.1 _ _ r (.int _)⟩
  · exact r.elim
theorem cd_min2 {K : PySem.W.Frag} : CallD K (fun xs H Q => ∃ i j, xs = [.int i, .int j] ∧ Q (.int (if j < i then j else i)) H) rMin2D := by
  intro G H xs ds P Q h s r f
  unfold rMin2D at r
  split at r
  · obtain ⟨v, u, rfl, h1, h2⟩ := dq2 h
    exact ⟨_, _, by rw [h1.int, h2.int], f.1 _ _ r (.int _)⟩
  · exact r.elim
theorem de_max2 (hc : X.calm = true) (hg : Gl X "max") (hm : X.mg "max" = none) (ha : DA X [a, b] ua) (he : starEach [a, b] X.env = (false, eval a X.env) :: starEach [b] X.env := by rfl) (hpl : (backTo pos (starEach [b] X.env)).any (·.1) = false := by rfl) : DE X (.Call (.Name "max" p) [a, b] [] pos) (wCB rMax2D ua) :=
  de_cb (call_max2 hc) cd_max2 hg hm (by decide +kernel) ha (he := he) (hpl := hpl)
theorem de_min2 (hc : X.calm = true) (hg : Gl X "min") (hm : X.mg "min" = none) (ha : DA X [a, b] ua) (he : starEach [a, b] X.env = (false, eval a X.env) :: starEach [b] X.env := by rfl) (hpl : (backTo pos (starEach [b] X.env)).any (·.1) = false := by rfl) : DE X (.Call (.Name "min" p) [a, b] [] pos) (wCB rMin2D ua) :=
  de_cb (call_min2 hc) cd_min2 hg hm (by decide +kernel) ha (he := he) (hpl := hpl)
def boolsD : List PyData → Option (List Bool)
  | [] => some []
  | .bool b :: r => (boolsD r).map (b :: ·)
  | _ => none
theorem bools_dp {K : PySem.W.Frag} {G : Hp} : ∀ {vs : List V} {ds : List PyData} {bs : List Bool}, DpAll K G vs ds → boolsD ds = some bs → vs = bs.map V.bl
  | [], _, bs, h, e => by cases h; cases e; rfl
  | v :: vs, _, bs, h, e => by
    cases h with
    | cons h1 h2 =>
      rename_i d ds
      cases d <;> first | (unfold boolsD at e; cases e; done) | skip
      rename_i b
      unfold boolsD at e
      cases q : boolsD ds with
      | none => rw [q] at e; cases e
      | some cs =>
        rw [q] at e
        cases e
        cases h1
        rw [bools_dp h2 q]
        rfl
def rAllD : RCD := fun ds P => match ds with
  | [.list xs] => match boolsD xs with
    | some bs => P (.d (.bool (bs.all id)))
    | none => False
  | _ => False
theorem cd_all {K : PySem.W.Frag} : CallD K (rAll K) rAllD := by
  intro G H xs ds P Q h s r f
  unfold rAllD at r
  split at r
  · split at r
    · rename_i bs e
      obtain ⟨v, rfl, hd⟩ := dq1 h
      obtain ⟨a, ys, rfl, h1, h2⟩ := hd.lst s
      have := bools_dp h2 e
      subst this
      exact ⟨a, bs, rfl, h1, f.1 _ _ r (.bl _)⟩
    · exact r.elim
  · exact r.elim
theorem de_all (hc : X.calm = true) (hg : Gl X "all") (hm : X.mg "all" = none) (ha : DA X [e] ua) (he : starEach [e] X.env = (false, eval e X.env) :: starEach [] X.env := by rfl) : DE X (.Call (.Name "all" p) [e] [] pos) (wCB rAllD ua) :=
  de_cb (cr_all hc) cd_all hg hm (by decide +kernel) ha (he := he)
def intsD : List PyData → Option (List Int)
  | [] => some []
  | .int b :: r => (intsD r).map (b :: ·)
  | _ => none
theorem ints_dp {K : PySem.W.Frag} {G : Hp} : ∀ {vs : List V} {ds : List PyData} {bs : List Int}, DpAll K G vs ds → intsD ds = some bs → vs = bs.map V.int
  | [], _, bs, h, e => by cases h; cases e; rfl
  | v :: vs, _, bs, h, e => by
    cases h with
    | cons h1 h2 =>
      rename_i d ds
      cases d <;> first | (unfold intsD at e; cases e; done) | skip
      rename_i b
      unfold intsD at e
      cases q : intsD ds with
      | none => rw [q] at e; cases e
      | some cs =>
        rw [q] at e
        cases e
        cases h1
        rw [ints_dp h2 q]
        rfl
theorem dp_ints {K : PySem.W.Frag} {G : Hp} : ∀ (bs : List Int), DpAll K G (bs.map V.int) (bs.map PyData.int)
  | [] => .nil
  | b :: bs => .cons (.int b) (dp_ints bs)
theorem ints_map : ∀ (bs : List Int), intsD (bs.map PyData.int) = some bs
  | [] => rfl
  | b :: bs => by show (intsD (bs.map PyData.int)).map (b :: ·) = _; rw [ints_map bs]; rfl
theorem bools_map : ∀ (bs : List Bool), boolsD (bs.map PyData.bool) = some bs
  | [] => rfl
  | b :: bs => by show (boolsD (bs.map PyData.bool)).map (b :: ·) = _; rw [bools_map bs]; rfl
def rSortedD : RCD := fun ds P => match ds with
  | [.list xs] => match intsD xs with
    | some ns => ∀ ms : List Int, ms.Perm ns → ms.Pairwise (· ≤ ·) → P (.l (ms.map PyData.int))
    | none => False
  | _ => False
theorem cd_sorted {K : PySem.W.Frag} : CallD K (rSortedI K) rSortedD := by
  intro G H xs ds P Q h s r f
  unfold rSortedD at r
  split at r
  · split at r
    · rename_i bs e
      obtain ⟨v, rfl, hd⟩ := dq1 h
      obtain ⟨a, ys, rfl, h1, h2⟩ := hd.lst s
      have := ints_dp h2 e
      subst this
      exact ⟨a, bs, rfl, h1, fun ns p hp hs hn => f.2.1 _ _ p (r ns hp hs) (dp_ints ns) hn⟩
    · exact r.elim
  · exact r.elim
theorem de_sorted (hg : Gl X "sorted") (hm : X.mg "sorted" = none) (ha : DA X [e] ua) (he : starEach [e] X.env = (false, eval e X.env) :: starEach [] X.env := by rfl) : DE X (.Call (.Name "sorted" p) [e] [] pos) (wCB rSortedD ua) :=
  de_cb cr_sortedI cd_sorted hg hm (by decide +kernel) ha (he := he)
end
end Dw
namespace Dw
open PySem PySem.Spec PyProof.Rows L2
structure FnG (P : Program) (w : World) (K : PySem.W.Frag) (mg : Str → Option Value) (base : Heap) (CX : CXT) (k : Nat) (f : Addr) (fd : FuncData) (ps : List Str) (sp : Sp) : Prop where
  len : ∀ ys G Q E, sp ys G Q E → ys.length = ps.length
  run : ∀ (A : Around) (outer : List Env) (s : Shared) (G : Hp) (args : Args) (us : List Value) (ys : List V) (Q : VK) (E : XK), A.guards = some [] → Room k A →
    Env0 P w K mg base A outer s G → BindsTo s fd args (ps.zip us) → Vals ys us → sp ys G Q E → codeAny (model P w) A (.call (.ref f) args) (CR CX outer P w G s Q E) s
theorem FnG.mono {P : Program} {w : World} {K : PySem.W.Frag} {mg : Str → Option Value} {base : Heap} {CX : CXT} {j k : Nat} {f : Addr} {fd : FuncData} {ps : List Str} {sp : Sp} (F : FnG P w K mg base CX j f fd ps sp) (h : j ≤ k) :
    FnG P w K mg base CX k f fd ps sp := ⟨F.len, fun A o s G ar us ys Q E g hr => F.run A o s G ar us ys Q E g (hr.mono h)⟩
theorem fnG_of {P : Program} {w : World} {K : PySem.W.Frag} {mg : Str → Option Value} {base : Heap} {x qual : Str} {st : Stmt} {f : Addr} {fd : FuncData} {N ps : List Str} {k : Nat} {sp : Sp} (F : Fun K x qual st f fd) (S : FnScope N ps (defScope st)) (len : ∀ ys G Q E, sp ys G Q E → ys.length = ps.length)
    (hbody : ∀ (cdv : Value) (A : Around) (outer : List Env) (s : Shared) (G : Hp) (ys : List V) (Q : VK) (E : XK), A.guards = some [] → Room k (A.deeper (envOfC qual (defScope st) s.heap.objs.size f cdv)) → sp ys G Q E →
      ∃ t, PSs (cxOf CX0 P w K mg base N qual (defScope st) f cdv A outer s G E).nox (defBody st) t ∧ t { nx := fun _ G' => Q .non G', rt := Q } (start N ys) G) : FnG P w K mg base CX0 (k + 1) f fd ps sp := by
  obtain ⟨oc, od, kV, doc, pm, an, cdv, ct, osl, rfl, lk, hcd⟩ := F.ex
  refine ⟨len, fun A outer s G args us ys Q E g0 room e0 hb r pr => ?_⟩
  have ll := len _ _ _ _ pr
  have kin : K.In s.heap := e0.mod.kin.keeps fun b o e => (e0.bs b o e).1
  have nol : s.heap.NoLimit := e0.mod.nolimit.keeps fun b o e => (e0.bs b o e).1
  have kinds : ∀ y ∈ ps.zip us, (defScope st).names.lookup y.1 = some .local ∨ ((defScope st).names.lookup y.1 = some .cell ∧ ((cellsFrom (s.heap.objs.size + 1) (defScope st).names []).lookup y.1).isSome = true) := by
    rintro ⟨n, v⟩ hy
    have hp := S.par n (List.of_mem_zip hy).1
    exact hp.imp id fun q => ⟨q, PySem.W.cellsFrom_some _ _ _ (.inl q)⟩
  refine codeAny_call_function room.depth (kin _ _ lk) rfl S.co S.gen rfl (PySem.W.codeRec_of kin hcd) (hb _ _ _ _ ?_)
  refine wpAny_newFunctionEnv_cells S.kind kinds fun env ee s1 y => ?_
  subst ee
  refine ⟨nol.keeps y.toInCall.keep, codeAny_func ?_⟩
  obtain ⟨t, ht, hq⟩ := hbody cdv A outer s G ys Q E g0 (room.deeper _) pr
  have I : Inv (cxOf CX0 P w K mg base N qual (defScope st) f cdv A outer s G E) [] (start N ys) G s1 := inv_start S room.hd e0 ll r y
  refine wpAny_mono (ht.nox.run [] s1 (start N ys) G _ I hq) (fun fl s' hs => ?_) fun _ _ z => z
  have done : ∀ {τ : L2.St} {G' : Hp} {v : V} {u : Value}, Inv (cxOf CX0 P w K mg base N qual (defScope st) f cdv A outer s G E) [] τ G' s' → RelV v u → Q v G' → CE outer P w G s Q u s' :=
    fun J rv q => ⟨_, _, J.os, J.bare, J.base, J.hok, rv, q⟩
  cases fl with
  | ret u => obtain ⟨v, τ, G', J, rv, q⟩ := hs; exact done J rv q
  | next => obtain ⟨τ, G', J, q⟩ := hs; exact done (v := V.non) (u := Value.none) J rfl q
  | brk => obtain ⟨τ, G', J, q⟩ := hs; exact q.elim
  | cont => obtain ⟨τ, G', J, q⟩ := hs; exact q.elim
section
variable {X : Cx} {CX : CXT} {k : Nat} {f : Addr} {fd : FuncData} {ps : List Str} {sp : Sp} {E : XK} {x : Str} {p pos : Pos} {e : Expr} {es : List Expr} {t : TA}
theorem runG {pins : List (Addr × Obj)} {σ : L2.St} {G : Hp} {s : Shared} {Q : VK} {us : List Value} {ys : List V} (F : FnG X.prog X.w X.K X.mg X.base CX k f fd ps sp) (g0 : X.A.guards = some []) (room : Room k X.A) (hb : Binds X.K fd ps []) (hx : Passes CX X E)
    (I : Inv X pins σ G s) (r : Vals ys us) (q : sp ys G Q E) : wpAny (model X.prog X.w) X.A (call (.ref f) us) (EP X pins σ Q) X.xe s := by
  have hl : (us ++ []).length = ps.length := by rw [List.append_nil, ← r.length]; exact F.len _ _ _ _ q
  have bt := hb s us I.kIn hl
  rw [List.append_nil] at bt
  refine wpAny_call (codeAny_mono (F.run X.A X.stack s G ⟨us, []⟩ us ys Q E g0 room I.env0 bt r q) fun res s' hq => ?_)
  cases res with
  | error er => exact hx pins σ G s er s' I hq
  | ok fl => cases fl <;> first | exact I.after hq | exact False.elim hq
theorem pe_callG (F : FnG X.prog X.w X.K X.mg X.base CX k f fd ps sp) (g0 : X.A.guards = some []) (room : Room k X.A) (hg : Gl X x) (hm : X.mg x = some (.ref f)) (hk : PySem.W.keepIn X.K (.ref f) = true) (hb : Binds X.K fd ps []) (hx : Passes CX X E)
    (ha : PA X (e :: es) t) (hdb : (x == ("__debug__" : Str)) = false := by decide) (he : starEach (e :: es) X.env = (false, eval e X.env) :: starEach es X.env := by rfl) (hpl : (backTo pos (starEach es X.env)).any (·.1) = false := by rfl) :
    PE X (.Call (.Name x p) (e :: es) [] pos) (fun σ G Q => t σ G fun ys G1 => sp ys G1 Q E) := by
  refine ⟨fun pins s σ G Q I q => wpAny_Call_Name_kw (ld_glob I hg hm ?_ hdb)⟩
  exact PySem.W.callWith_K (h₀ := X.base) I.ok.mod.kin hk (thn (ha.run pos pins s σ G _ I q) fun us s1 ⟨ys, G1, I1, r, q1⟩ => ⟨I1.kIn, runG F g0 room hb hx I1 r q1⟩) he hpl
end
end Dw
namespace Dw
open PySem PySem.Spec PyProof.Rows L2
section
variable {X : Cx} {a b c e : Expr} {wa wb wc we : WE} {pos p p2 : Pos} {es rest : List Expr} {ua : WA}
def showOk (d : PyData) : Prop := d.showable = true ∧ d.hasDict = false ∧ d.depth ≤ 64 ∧ d.shown.length ≤ sizeLine
theorem call_reprD (g0 : X.A.guards = some []) (hu : X.A.units + 80 < cLine) : CallR X (.builtin "repr") (fun xs H Q => ∃ v d, xs = [v] ∧ Dp X.K H v d ∧ showOk d ∧ Q (.str d.shown) H) := by
  intro pins s σ H xs us Q I r h
  obtain ⟨v, d, rfl, hd, ⟨h1, h2, h3, h4⟩, q⟩ := h
  obtain ⟨u, rfl, ru⟩ := vals1 r
  obtain ⟨as, rd⟩ := L2.Dp.reads I d v u (dp_l2 d v hd h2) ru
  have onRef : ∀ {a : Addr}, u = .ref a → wpAny (model X.prog X.w) X.A (call (.builtin "repr") [u]) (EP X pins σ Q) X.xe s := by
    rintro a rfl
    refine repr_of_reads' rd h1 (PyData.noDict_hsm h2) g0 (by omega) (fun _ _ z => z) (fun h' t tk hk => ⟨.str _, H, I.kept hk, ⟨_, rfl⟩, q⟩) h4
  cases hd with
  | non => cases ru; exact PySem.P.repr_of_none ⟨.str _, H, I.tok _, ⟨_, rfl⟩, q⟩
  | bl b => cases ru; exact PySem.P.repr_of_bool ⟨.str _, H, I.tok _, ⟨_, rfl⟩, q⟩
  | int i =>
    obtain ⟨t, rfl⟩ := ru
    have z : i.natAbs.log2 < 1920 := of_decide_eq_true (by simpa [PyData.showable] using h1)
    exact PySem.P.repr_of_int z ⟨.str _, H, I.tok _, ⟨_, rfl⟩, q⟩
  | str x =>
    obtain ⟨t, rfl⟩ := ru
    exact PySem.P.repr_of_str (show EP X pins σ Q _ _ from ⟨.str _, H, I.tok _, ⟨_, rfl⟩, q⟩) h4
  | lst hs ha => cases ru; exact onRef rfl
  | tup hs ha => cases ru; exact onRef rfl
  | dk hs => cases ru; exact onRef rfl
  | dt hs => cases ru; exact onRef rfl
  | e0 hs => cases ru; exact onRef rfl
  | xt hs _ => cases ru; exact onRef rfl
  | ad => cases ru; exact onRef rfl
  | dn => cases ru; exact onRef rfl
  | ob => cases ru; exact onRef rfl
def rReprD : RCD := fun ds P => match ds with
  | [d] => showOk d ∧ P (.d (.str d.shown))
  | _ => False
theorem cd_repr {K : PySem.W.Frag} : CallD K (fun xs H Q => ∃ v d, xs = [v] ∧ Dp K H v d ∧ showOk d ∧ Q (.str d.shown) H) rReprD := by
  intro G H xs ds P Q h s r f
  unfold rReprD at r
  split at r
  · obtain ⟨v, rfl, hd⟩ := dq1 h
    exact ⟨v, _, rfl, hd.dp s, r.1, f.1 _ _ r.2 (.str _)⟩
  · exact r.elim
theorem de_repr (g0 : X.A.guards = some []) (hu : X.A.units + 80 < cLine) (hg : Gl X "repr") (hm : X.mg "repr" = none) (ha : DA X [e] ua) (he : starEach [e] X.env = (false, eval e X.env) :: starEach [] X.env := by rfl) : DE X (.Call (.Name "repr" p) [e] [] pos) (wCB rReprD ua) :=
  de_cb (call_reprD g0 hu) cd_repr hg hm (by decide +kernel) ha (he := he)
def tyD : PyData → Option String
  | .none => some "NoneType"
  | .bool _ => some "bool"
  | .int _ => some "int"
  | .str _ => some "str"
  | .list _ => some "list"
  | .tuple _ => some "tuple"
  | .dict _ => none
theorem ty_of {K : PySem.W.Frag} {H : Hp} {v : V} {d : PyData} {t : String} (h : Dp K H v d) (e : tyD d = some t) : TyX K H v (.type t) := by
  cases h with
  | non => cases e; exact .base .non
  | bl b => cases e; exact .base (.bl b)
  | int b => cases e; exact .base (.int b)
  | str b => cases e; exact .base (.str b)
  | lst hs ha =>
    cases e
    rcases hs with (h | ⟨o, h⟩) | ⟨o, its, n, h, hc, _⟩
    · exact .base (.lst h)
    · exact .base (.frz h)
    · exact .kList h hc
  | tup hs ha => cases e; exact .base (.tup hs)
  | dk h => cases e
  | dt h => cases e
  | e0 h => cases e
  | xt h _ => cases e
  | ad => cases e
  | dn => cases e
  | ob => cases e
def wIsi (f : PyData → Option Bool) (w : WE) : WE := fun δ P => w δ fun r δ1 => match f r.as with
  | some k => P (.d (.bool k)) δ1
  | none => False
def isIntD : PyData → Option Bool
  | .int _ => some true
  | .bool _ => some true
  | .dict _ => none
  | _ => some false
def isBoolD : PyData → Option Bool
  | .bool _ => some true
  | .dict _ => none
  | _ => some false
def isTupD : PyData → Option Bool
  | .tuple _ => some true
  | .dict _ => none
  | _ => some false
theorem boot_intT : bootBuiltins "int" = some (.type "int") := by decide +kernel
theorem boot_boolT : bootBuiltins "bool" = some (.type "bool") := by decide +kernel
theorem boot_tupleT : bootBuiltins "tuple" = some (.type "tuple") := by decide +kernel
theorem boot_strT : bootBuiltins "str" = some (.type "str") := by decide +kernel
abbrev WO := Dl → (Option Int → Dl → Prop) → Prop
def liftO (K : PySem.W.Frag) (w : WO) : TO := fun σ H Q => ∃ O δ P, Rep K O δ σ H ∧ w δ P ∧ ∀ r δ' H', P r δ' → Stp O δ δ' σ H H' → Rep K O δ' σ H' → Q r H'
def DO (X : Cx) (e : Option Expr) (w : WO) : Prop := PO X e (liftO X.K w)
theorem po_weak {o : Option Expr} {t t' : TO} (h : PO X o t) (f : ∀ σ H Q, t' σ H Q → t σ H Q) : PO X o t' := ⟨fun pins s σ H Q I q => h.run pins s σ H Q I (f σ H Q q)⟩
def wNo : WO := fun δ P => P none δ
def wPart (w : WE) : WO := fun δ P => w δ fun r δ1 => match r with
  | .d (.int i) => P (some i) δ1
  | _ => False
theorem do_none : DO X none wNo := po_weak po_none fun σ H Q ⟨O, δ, P, R0, w, f⟩ => f _ _ _ w Stp.refl R0
theorem do_some (h : DE X e we) : DO X (some e) (wPart we) := by
  refine po_weak (po_some h) fun σ H Q ⟨O, δ, P, R0, w, f⟩ => ?_
  refine ⟨O, δ, _, R0, w, fun r δ1 v H1 w1 s1 R1 k1 => ?_⟩
  cases r with
  | l xs => exact w1.elim
  | b i xs => exact w1.elim
  | d x =>
    cases x <;> first | exact False.elim w1 | skip
    rename_i k
    have k1 : Dp X.K (hid H1 O) v (.int k) := k1
    cases k1
    exact ⟨k, rfl, f _ _ _ w1 s1 R1⟩
def cutD (xs : List PyData) (lo hi : Option Int) : List PyData := (xs.drop (HT.sIx xs.length 0 lo)).take (HT.sIx xs.length xs.length hi - HT.sIx xs.length 0 lo)
def wSlice (w : WE) (wl wh : WO) : WE := fun δ P => w δ fun r δ1 => wl δ1 fun lo δ2 => wh δ2 fun hi δ3 => still r δ3 (match r.as with
  | .tuple xs => P (.d (.tuple (cutD xs lo hi))) δ3
  | .list xs => P (.l (cutD xs lo hi)) δ3
  | _ => False)
theorem da_cut {K : PySem.W.Frag} {G : Hp} {vs : List V} {ds : List PyData} (h : DpAll K G vs ds) (lo hi : Option Int) : DpAll K G (cutV vs lo hi) (cutD ds lo hi) := by
  unfold cutV cutD
  rw [da_len h]
  exact da_take _ (da_drop _ h)
theorem cut_whole {α : Type} (xs : List α) {lo hi : Option Int} (h : HT.sIx xs.length 0 lo = 0 ∧ HT.sIx xs.length xs.length hi = xs.length) : (xs.drop (HT.sIx xs.length 0 lo)).take (HT.sIx xs.length xs.length hi - HT.sIx xs.length 0 lo) = xs := by
  rw [h.1, h.2, List.drop_zero, Nat.sub_zero, List.take_length]
theorem de_slice {lo hi : Option Expr} {wl wh : WO} (h : DE X e we) (hl : DO X lo wl) (hh : DO X hi wh) : DE X (.Subscript e (.Slice lo hi none p2) pos) (wSlice we wl wh) := by
  refine pe_weak (pe_slice (sl_list.or sl_tupA) h hl hh) fun σ H Q ⟨O, δ, P, R0, w, f⟩ => ?_
  refine ⟨O, δ, _, R0, w, fun r δ1 v H1 w1 s1 R1 k1 => ?_⟩
  refine ⟨O, δ1, _, R1, w1, fun l δ2 H2 w2 s2 R2 => ?_⟩
  refine ⟨O, δ2, _, R2, w2, fun u δ3 H3 w3 s3 R3 => ?_⟩
  obtain ⟨dq, w3⟩ := held R0 k1 (s2.trans s3).same R3 w3
  have fin := fin_of R0 ((s1.trans s2).trans s3) R3 f
  split at w3
  · rename_i ds e
    rw [e] at dq
    obtain ⟨p, vs, e1, hq, ha⟩ := dq.tup hid_le
    refine .inr ⟨p, vs, e1, hq, fun hw => ?_, fun _ q hp => fin.2.2 _ _ q w3 (da_cut ha l u) hp⟩
    rcases dq with dq | ⟨_, _, _, _, z, _⟩
    · refine fin.1 _ _ w3 ?_
      rw [da_len ha] at hw
      have : cutD ds l u = ds := cut_whole ds hw
      rw [this]
      subst e1
      exact dq
    · cases z
  · rename_i ds e
    rw [e] at dq
    obtain ⟨p, vs, e1, hq, ha⟩ := dq.lst hid_le
    exact .inl ⟨p, vs, e1, hq, fun q hp => fin.2.1 _ _ q w3 (da_cut ha l u) hp⟩
  · exact w3.elim
def spOf (K : PySem.W.Frag) (S : WE) : Sp := fun vs H Q _ => lift K S (vs.map some) H Q
def wCall (S : WE) (u : WA) : WE := fun δ P => u δ fun rs δ1 => rs.all noB = true ∧ S (rs.map fun r => .d r.as) fun r _ => (match r with | .b _ _ => False | _ => P r δ1)
theorem rep_args {K : PySem.W.Frag} {O : Addr → Prop} {δ : Dl} {σ : L2.St} {H : Hp} (R : Rep K O δ σ H) {vs : List V} {ds : List PyData} (h : DpAll K (hid H O) vs ds) : Rep K O (ds.map Sl.d) (vs.map some) H := by
  refine ⟨by rw [List.length_map, List.length_map, da_len h], fun i x e => ?_, fun i xs e => ?_, fun i j xs ys a e => ?_, R.occ, .none fun i s e => ?_⟩
  · rw [List.getElem?_map] at e
    cases q : ds[i]? with
    | none => rw [q] at e; cases e
    | some d =>
      rw [q] at e; cases e
      obtain ⟨v, e1, e2⟩ := da_get h q
      exact ⟨v, by rw [List.getElem?_map, e1]; rfl, e2⟩
  · rw [List.getElem?_map] at e
    cases q : ds[i]? with
    | none => rw [q] at e; cases e
    | some d => rw [q] at e; cases e
  · rw [List.getElem?_map] at e
    cases q : ds[i]? with
    | none => rw [q] at e; cases e
    | some d => rw [q] at e; cases e
  · rw [List.getElem?_map] at e
    cases q : ds[i]? with
    | none => rw [q] at e; cases e
    | some d => rw [q] at e; cases e; rfl
theorem no_ownS {ds : List PyData} {a : Addr} : ¬ OwnS (ds.map Sl.d) a := by
  rintro ⟨i, xs, e, _⟩
  rw [List.getElem?_map] at e
  cases q : ds[i]? with
  | none => rw [q] at e; cases e
  | some d => rw [q] at e; cases e
theorem no_ownL {ds : List PyData} {σ : L2.St} {a : Addr} : ¬ OwnL (ds.map Sl.d) σ a := by
  rintro ⟨i, xs, e, _⟩
  rw [List.getElem?_map] at e
  cases q : ds[i]? with
  | none => rw [q] at e; cases e
  | some d => rw [q] at e; cases e
theorem no_own {ds : List PyData} {σ : L2.St} {a : Addr} : ¬ Own (ds.map Sl.d) σ a := fun z => z.elim no_ownL no_ownS
theorem Rep.mvO {K : PySem.W.Frag} {O O2 : Addr → Prop} {δ : Dl} {σ : L2.St} {H H' : Hp} (R : Rep K O δ σ H) (sub : ∀ a, O a → O2 a) (s : Same (hid H O) (hid H' O2)) (f : ∀ a, O a → H' a = H a) (occ : ∀ a, O2 a → ∃ o, H' a = some o) : Rep K O2 δ σ H' := by
  refine ⟨R.len, fun i x e => ?_, fun i xs e => ?_, R.inj, occ, R.ex.mv sub s fun a z _ => f a z⟩
  · obtain ⟨v, e1, d⟩ := R.dat i x e
    exact ⟨v, e1, Dp.up d s⟩
  · obtain ⟨a, vs, e1, z, e2, d⟩ := R.lst i xs e
    exact ⟨a, vs, e1, sub a z, by rw [f a z]; exact e2, DpAll.up d s⟩
theorem same_hide {O : Addr → Prop} {H H' : Hp} {p : Addr} (s : Same (hid H O) (hid H' O)) (n : H p = none) : Same (hid H O) (hid H' fun a => O a ∨ a = p) := fun b x e => by
  obtain ⟨nb, e'⟩ := hid_some e
  have ne : b ≠ p := ne_of_none e' n
  obtain ⟨_, e2⟩ := hid_some (s b x e)
  rw [hid_no (fun z => z.elim nb ne)]; exact e2
theorem Rep.mv {K : PySem.W.Frag} {O : Addr → Prop} {δ : Dl} {σ : L2.St} {H H' : Hp} (R : Rep K O δ σ H) (s : Same (hid H O) (hid H' O)) (f : ∀ a, O a → H' a = H a) : Rep K O δ σ H' := by
  refine ⟨R.len, fun i x e => ?_, fun i xs e => ?_, R.inj, fun a z => ?_, R.ex.mv (fun _ z => z) s fun a z _ => f a z⟩
  · obtain ⟨v, e1, d⟩ := R.dat i x e
    exact ⟨v, e1, Dp.up d s⟩
  · obtain ⟨a, vs, e1, z, e2, d⟩ := R.lst i xs e
    exact ⟨a, vs, e1, z, by rw [f a z]; exact e2, DpAll.up d s⟩
  · rw [f a z]; exact R.occ a z
variable {x : Str} {f : Addr} {fd : FuncData} {ps : List Str} {k : Nat} {S : WE}
theorem de_call (F : FnG X.prog X.w X.K X.mg X.base CX0 k f fd ps (spOf X.K S)) (g0 : X.A.guards = some []) (room : Room k X.A) (hg : Gl X x) (hm : X.mg x = some (.ref f)) (hk : PySem.W.keepIn X.K (.ref f) = true) (hb : Binds X.K fd ps []) (ha : DA X (e :: es) ua)
    (hdb : (x == ("__debug__" : Str)) = false := by decide) (he : starEach (e :: es) X.env = (false, eval e X.env) :: starEach es X.env := by rfl) (hpl : (backTo pos (starEach es X.env)).any (·.1) = false := by rfl) :
    DE X (.Call (.Name x p) (e :: es) [] pos) (wCall S ua) := by
  refine pe_weak (pe_callG F g0 room hg hm hk hb (pass0 (X := X)) ha hdb he hpl) fun σ H Q ⟨O, δ, P, R0, w, g⟩ => ?_
  refine ⟨O, δ, _, R0, w, fun rs δ1 vs H1 w1 s1 R1 k1 => ?_⟩
  obtain ⟨w0, w1⟩ := w1
  have ha := RvsOk.dp R0 R1 k1 w0
  have hR := rep_args R1 ha
  rw [List.map_map] at hR
  refine ⟨O, _, _, hR, w1, fun r δ' v H' w2 s2 R2 k2 => ?_⟩
  have fr : ∀ a, O a → H' a = H1 a := fun a z => s2.frame a z (by
    have := no_own (ds := rs.map Rv.as) (σ := vs.map some) (a := a)
    rw [List.map_map] at this
    exact this)
  have st : Stp O δ1 δ1 σ H1 H' := ⟨s2.same, fun a z _ => fr a z, fun _ => Iff.rfl, fun _ _ => Iff.rfl, dct_refl⟩
  cases r with
  | b i xs => exact w2.elim
  | d x => exact g _ _ _ _ w2 (s1.trans st) (R1.mv s2.same fr) k2
  | l xs =>
    obtain ⟨p, us, e1, n, e, ha, hr⟩ := k2
    refine g _ _ _ _ w2 (s1.trans st) (R1.mv s2.same fr) (RvOk.back R0 R1 s1 ⟨p, us, e1, n, e, ha, R1.mvO (fun a z => .inl z) (same_hide s2.same n) fr hr.occ⟩)
def endO (δ1 : Dl) (i : Nat) (P : Rv → Dl → Prop) : Rv → Dl → Prop := fun r δc => match δc with
  | .o ys :: _ => (match r with | .b _ _ => False | _ => P r (δ1.set i (.o ys)))
  | _ => False
def wCallO1 (S : WE) (i : Nat) (P : Rv → Dl → Prop) (rs : List Rv) (δ1 : Dl) : Prop := match δ1[i]? with
  | some (.o xs) => S (.o xs :: rs.map fun r => .d r.as) (endO δ1 i P)
  | _ => False
def wCallO (S : WE) (i : Nat) (u : WA) : WE := fun δ P => match δ[i]? with
  | some (.o _) => u δ fun rs δ1 => rs.all noB = true ∧ wCallO1 S i P rs δ1
  | _ => False
theorem get_set {α : Type} {xs : List α} {i j : Nat} {x : α} : (xs.set i x)[j]? = if i = j then (if i < xs.length then some x else none) else xs[j]? := by
  rw [List.getElem?_set]
theorem set_dct {δ : Dl} {i j : Nat} {xs ys : List PyData} {t : Sl} (e : δ[i]? = some (Sl.o xs)) (n : noMk t = false) (q : (δ.set i (Sl.o ys))[j]? = some t) : ∃ s, δ[j]? = some s ∧ s.like t := by
  rw [get_set] at q
  by_cases h : i = j
  · rw [if_pos h] at q
    split at q <;> cases q
    cases n
  · rw [if_neg h] at q
    exact ⟨t, q, t.like_refl⟩
theorem Rep.noS {K : PySem.W.Frag} {O : Addr → Prop} {δ : Dl} {σ : L2.St} {H : Hp} {i : Nat} {xs : List PyData} {a : Addr} (R : Rep K O δ σ H) (e : δ[i]? = some (.o xs)) (ea : σ[i]? = some (some (.ref a))) : ¬ OwnS δ a := R.ex.noS e ea
theorem after_own {K : PySem.W.Frag} {O : Addr → Prop} {δ1 : Dl} {σ : L2.St} {H1 H' : Hp} {i : Nat} {xs ys : List PyData} {a : Addr} {vs : List V} (R1 : Rep K O δ1 σ H1) (e : δ1[i]? = some (.o xs)) (ea : σ[i]? = some (some (.ref a)))
    (same : Same (hid H1 O) (hid H' O)) (fr : ∀ b, O b → b ≠ a → H' b = H1 b) (new : H' a = some (.lst vs)) (dp : DpAll K (hid H' O) vs ys) : Stp O δ1 (δ1.set i (.o ys)) σ H1 H' ∧ Rep K O (δ1.set i (.o ys)) σ H' := by
  have hi : i < δ1.length := (List.getElem?_eq_some_iff.mp e).1
  have oa : O a := by
    obtain ⟨a', vs', e1, z, _⟩ := R1.lst i xs e
    rw [ea] at e1; cases e1; exact z
  have ne : ∀ j zs b, δ1[j]? = some (.o zs) → σ[j]? = some (some (.ref b)) → j ≠ i → b ≠ a := fun j zs b q1 q2 q3 q4 => by
    subst q4
    exact q3 (R1.inj j i zs xs b q1 e q2 ea)
  refine ⟨⟨same, fun b ob nb => fr b ob fun z => nb (.inl ⟨i, xs, e, by rw [z]; exact ea⟩), fun j => ?_, fun j x => ?_, fun j kvs n q => set_dct e n q⟩, ⟨by rw [List.length_set]; exact R1.len, fun j x q => ?_, fun j zs q => ?_, fun j k zs ws b q1 q2 q3 q4 => ?_, fun b ob => ?_, (R1.ex.mv (fun _ z => z) same fun b ob eb => fr b ob (R1.notKept e ea eb)).putd rfl fun _ => ⟨xs, e⟩⟩⟩
  · rw [get_set]
    by_cases h : i = j
    · subst h
      rw [if_pos rfl, if_pos hi]
      exact ⟨fun _ => ⟨xs, e⟩, fun _ => ⟨ys, rfl⟩⟩
    · rw [if_neg h]
  · rw [get_set]
    by_cases h : i = j
    · subst h
      rw [if_pos rfl, if_pos hi, e]
      exact ⟨fun z => (nomatch z), fun z => (nomatch z)⟩
    · rw [if_neg h]
  · rw [get_set] at q
    by_cases h : i = j
    · rw [if_pos h, if_pos hi] at q; cases q
    · rw [if_neg h] at q
      obtain ⟨v, e1, d⟩ := R1.dat j x q
      exact ⟨v, e1, Dp.up d same⟩
  · rw [get_set] at q
    by_cases h : i = j
    · subst h
      rw [if_pos rfl, if_pos hi] at q
      cases q
      exact ⟨a, vs, ea, oa, new, dp⟩
    · rw [if_neg h] at q
      obtain ⟨b, us, e1, z, e2, d⟩ := R1.lst j zs q
      exact ⟨b, us, e1, z, by rw [fr b z (ne j zs b q e1 fun w => h w.symm)]; exact e2, DpAll.up d same⟩
  · have c : ∀ (j : Nat) (zs : List PyData), (δ1.set i (Sl.o ys))[j]? = some (Sl.o zs) → ∃ zs', δ1[j]? = some (Sl.o zs') := fun j zs q => by
      rw [get_set] at q
      by_cases h : i = j
      · subst h; exact ⟨xs, e⟩
      · rw [if_neg h] at q; exact ⟨zs, q⟩
    obtain ⟨_, c1⟩ := c j zs q1
    obtain ⟨_, c2⟩ := c k ws q2
    exact R1.inj j k _ _ b c1 c2 q3 q4
  · by_cases h : b = a
    · rw [h]; exact ⟨_, new⟩
    · rw [fr b ob h]; exact R1.occ b ob
theorem after_ownO {K : PySem.W.Frag} {O O2 : Addr → Prop} {δ1 : Dl} {σ : L2.St} {H1 H' : Hp} {i : Nat} {xs ys : List PyData} {a : Addr} {vs : List V} (R1 : Rep K O δ1 σ H1) (e : δ1[i]? = some (.o xs)) (ea : σ[i]? = some (some (.ref a))) (sub : ∀ a, O a → O2 a)
    (same : Same (hid H1 O) (hid H' O2)) (fr : ∀ b, O b → b ≠ a → H' b = H1 b) (new : H' a = some (.lst vs)) (dp : DpAll K (hid H' O2) vs ys) (occ : ∀ a, O2 a → ∃ o, H' a = some o) : Rep K O2 (δ1.set i (.o ys)) σ H' := by
  have hi : i < δ1.length := (List.getElem?_eq_some_iff.mp e).1
  have oa : O a := by
    obtain ⟨a', vs', e1, z, _⟩ := R1.lst i xs e
    rw [ea] at e1; cases e1; exact z
  have ne : ∀ j zs b, δ1[j]? = some (.o zs) → σ[j]? = some (some (.ref b)) → j ≠ i → b ≠ a := fun j zs b q1 q2 q3 q4 => by
    subst q4
    exact q3 (R1.inj j i zs xs b q1 e q2 ea)
  refine ⟨by rw [List.length_set]; exact R1.len, fun j x q => ?_, fun j zs q => ?_, fun j k zs ws b q1 q2 q3 q4 => ?_, occ, (R1.ex.mv sub same fun b ob eb => fr b ob (R1.notKept e ea eb)).putd rfl fun _ => ⟨xs, e⟩⟩
  · rw [get_set] at q
    by_cases h : i = j
    · rw [if_pos h, if_pos hi] at q; cases q
    · rw [if_neg h] at q
      obtain ⟨v, e1, d⟩ := R1.dat j x q
      exact ⟨v, e1, Dp.up d same⟩
  · rw [get_set] at q
    by_cases h : i = j
    · subst h
      rw [if_pos rfl, if_pos hi] at q
      cases q
      exact ⟨a, vs, ea, sub a oa, new, dp⟩
    · rw [if_neg h] at q
      obtain ⟨b, us, e1, z, e2, d⟩ := R1.lst j zs q
      exact ⟨b, us, e1, sub b z, by rw [fr b z (ne j zs b q e1 fun w => h w.symm)]; exact e2, DpAll.up d same⟩
  · have c : ∀ (j : Nat) (zs : List PyData), (δ1.set i (Sl.o ys))[j]? = some (Sl.o zs) → ∃ zs', δ1[j]? = some (Sl.o zs') := fun j zs q => by
      rw [get_set] at q
      by_cases h : i = j
      · subst h; exact ⟨xs, e⟩
      · rw [if_neg h] at q; exact ⟨zs, q⟩
    obtain ⟨_, c1⟩ := c j zs q1
    obtain ⟨_, c2⟩ := c k ws q2
    exact R1.inj j k _ _ b c1 c2 q3 q4
theorem rep_argsO {K : PySem.W.Frag} {O : Addr → Prop} {δ : Dl} {σ : L2.St} {H : Hp} {i : Nat} {xs : List PyData} {a : Addr} (R : Rep K O δ σ H) (e : δ[i]? = some (.o xs)) (ea : σ[i]? = some (some (.ref a))) {vs : List V} {ds : List PyData} (h : DpAll K (hid H O) vs ds) :
    Rep K O (.o xs :: ds.map Sl.d) (some (.ref a) :: vs.map some) H := by
  have R' := rep_args R h
  refine ⟨by rw [List.length_cons, List.length_cons, R'.len], fun j x q => ?_, fun j zs q => ?_, fun j k zs ws b q1 q2 q3 q4 => ?_, R.occ, .none fun j s q => ?_⟩
  · cases j with
    | zero => cases q
    | succ j => exact R'.dat j x q
  · cases j with
    | zero =>
      cases q
      obtain ⟨a', us, e1, z, e2, d⟩ := R.lst i xs e
      rw [ea] at e1; cases e1
      exact ⟨a, us, rfl, z, e2, d⟩
    | succ j => exact R'.lst j zs q
  · cases j with
    | zero =>
      cases k with
      | zero => rfl
      | succ k => obtain ⟨_, _, _, z, _⟩ := R'.lst k ws q2; exact absurd ⟨k, ws, q2, q4⟩ no_ownL
    | succ j => obtain ⟨_, _, _, z, _⟩ := R'.lst j zs q1; exact absurd ⟨j, zs, q1, q3⟩ no_ownL
  · cases j with
    | zero => cases q; rfl
    | succ j =>
      have q : (ds.map Sl.d)[j]? = some s := q
      rw [List.getElem?_map] at q
      cases w : ds[j]? with
      | none => rw [w] at q; cases q
      | some d => rw [w] at q; cases q; rfl
theorem de_callO {y : Str} {py : Pos} (i : Nat) (F : FnG X.prog X.w X.K X.mg X.base CX0 k f fd ps (spOf X.K S)) (g0 : X.A.guards = some []) (room : Room k X.A) (hg : Gl X x) (hm : X.mg x = some (.ref f)) (hk : PySem.W.keepIn X.K (.ref f) = true) (hb : Binds X.K fd ps []) (ha : DA X es ua)
    (hN : X.N[i]? = some y := by rfl) (hv : Vis X.env.scope y := by first | exact Or.inl rfl | exact Or.inr (Or.inl rfl) | exact Or.inr (Or.inr rfl)) (hy : (y == ("__debug__" : Str)) = false := by decide) (hcd : (y == ("__classdict__" : Str)) = false := by decide)
    (hdb : (x == ("__debug__" : Str)) = false := by decide) (he : starEach (.Name y py :: es) X.env = (false, eval (.Name y py) X.env) :: starEach es X.env := by rfl) (hpl : (backTo pos (starEach es X.env)).any (·.1) = false := by rfl) :
    DE X (.Call (.Name x p) (.Name y py :: es) [] pos) (wCallO S i ua) := by
  refine pe_weak (pe_callG F g0 room hg hm hk hb (pass0 (X := X)) (pa_cons (pe_var hN hv hy hcd) ha he) hdb he hpl) fun σ H Q ⟨O, δ, P, R0, w, g⟩ => ?_
  unfold wCallO at w
  split at w
  · rename_i xs0 e0
    obtain ⟨a, us, ea, oa, _, _⟩ := R0.lst i xs0 e0
    refine ⟨.ref a, ea, O, δ, _, R0, w, fun rs δ1 vs H1 w1 s1 R1 k1 => ?_⟩
    obtain ⟨w0, w1⟩ := w1
    unfold wCallO1 at w1
    split at w1
    · rename_i xs e
      have hR := rep_argsO R1 e ea (RvsOk.dp R0 R1 k1 w0)
      rw [List.map_map] at hR
      refine ⟨O, _, _, hR, w1, fun r δ' v H' w2 s2 R2 k2 => ?_⟩
      unfold endO at w2
      split at w2
      · rename_i ys rest
        obtain ⟨a', us', e1, _, e2, d⟩ := R2.lst 0 ys rfl
        cases e1
        have fr : ∀ b, O b → b ≠ a → H' b = H1 b := fun b ob nb => s2.frame b ob (by
          rintro (⟨j, zs, q1, q2⟩ | ⟨j, o, q1, q2⟩)
          · cases j with
            | zero => cases q2; exact nb rfl
            | succ j =>
              have := no_ownL (ds := rs.map Rv.as) (σ := vs.map some) (a := b)
              rw [List.map_map] at this
              exact this ⟨j, zs, q1, q2⟩
          · cases j with
            | zero => cases q1
            | succ j =>
              have := no_ownS (ds := rs.map Rv.as) (a := b)
              rw [List.map_map] at this
              exact this ⟨j, o, q1, q2⟩)
        obtain ⟨st, R3⟩ := after_own R1 e ea s2.same fr e2 d
        cases r with
        | b i xs => exact w2.elim
        | d x => exact g _ _ _ _ w2 (s1.trans st) R3 k2
        | l zs =>
          obtain ⟨p, us2, q1, n, q2, ha, hr⟩ := k2
          obtain ⟨a3, us3, q3, _, q4, d3⟩ := hr.lst 0 ys rfl
          cases q3
          exact g _ _ _ _ w2 (s1.trans st) R3 (RvOk.back R0 R1 s1 ⟨p, us2, q1, n, q2, ha, after_ownO R1 e ea (fun a z => .inl z) (same_hide s2.same n) fr q4 d3 hr.occ⟩)
      · exact w2.elim
    · exact w1.elim
  · exact w.elim
end
end Dw
namespace Dw
open PySem PySem.Spec PyProof.Rows L2
abbrev WI := Dl → (List PyData → Dl → Prop) → Prop
def Yld (K : PySem.W.Frag) (G : Hp) (H1 : Hp) (x : V) (H2 : Hp) (d : PyData) : Prop :=
  (H2 = H1 ∧ Dp K G x d) ∨ ∃ T x1 x2 d1 d2, x = .ref T ∧ H1 T = none ∧ H2 = upd H1 T (.tup [x1, x2]) ∧ d = .tuple [d1, d2] ∧ Dp K G x1 d1 ∧ Dp K G x2 d2
def WalkD (K : PySem.W.Frag) (G : Hp) (J : It) (ds : List PyData) : Prop :=
  ∃ (GG : Hp → Prop) (Y : Nat → Hp → V → Hp → Prop), Walk J ds.length GG Y ∧ (∀ H1, Same G H1 → GG H1) ∧ ∀ i H1 x H2 d, ds[i]? = some d → Same G H1 → Y i H1 x H2 → Yld K G H1 x H2 d
def liftI (K : PySem.W.Frag) (w : WI) : TI := fun σ H R => ∃ O δ P, Rep K O δ σ H ∧ w δ P ∧ ∀ ds δ' H' J, P ds δ' → Stp O δ δ' σ H H' → Rep K O δ' σ H' → WalkD K (hid H' O) J ds → R J H'
def DI (X : Cx) (tg e : Expr) (w : WI) : Prop := PI X tg e (liftI X.K w)
section
variable {X : Cx} {tg a b c e : Expr} {wa wb wc we : WE} {pos p p2 tpos : Pos} {es elts : List Expr} {ua : WA} {kk : Nat}
theorem pi_weak {w w' : TI} (h : PI X tg e w) (f : ∀ σ H Q, w' σ H Q → w σ H Q) : PI X tg e w' := ⟨fun pins s σ H Q I q => h.run pins s σ H Q I (f σ H Q q)⟩
theorem pi_seq {tl : TE} (hl : PE X e tl) : PI X tg e (fun σ H R => tl σ H fun x H1 => ∃ a, x = .ref a ∧ (((∃ xs, SqL X.K H1 a xs) ∧ R (Itl X.K a) H1) ∨ ((∃ xs, SqT X.K H1 a xs) ∧ R (Itt X.K a) H1))) := by
  refine ⟨fun pins s σ H R I q => thn (hl.run pins s σ H _ I q) fun v s1 ⟨x, H1, I1, r1, q1⟩ => ?_⟩
  obtain ⟨a, rfl, q1⟩ := q1
  cases r1
  have out : ∀ b ∈ [s1.heap.objs.size], FpOk X pins H1 b := fun b hb => by
    obtain rfl : b = s1.heap.objs.size := by simpa using hb
    exact I1.fpOk (Nat.le_refl _) (I1.hok.fresh (Nat.le_refl _))
  rcases q1 with ⟨⟨xs, hq⟩, q1⟩ | ⟨⟨xs, hq⟩, q1⟩
  · obtain ⟨its, rv, pl, hz⟩ := I1.list hq
    exact wpAny_pyIter_list pl.isList ⟨_, [_], _, _, H1, rfl, I1.kept (t' := s1.toks) fun _ _ z => Heap.get?_push_of_some _ z, turn_list a _, ⟨_, Heap.get?_push_size _ rfl, rfl, rfl⟩, out, q1⟩
  · obtain ⟨its, rv, pl, hz⟩ := I1.tuple hq
    exact wpAny_pyIter_tuple (show s1.heap.IsTuple a its.toArray from pl) ⟨_, [_], _, _, H1, rfl, I1.kept (t' := s1.toks) fun _ _ z => Heap.get?_push_of_some _ z, turn_tuple a _, ⟨_, Heap.get?_push_size _ rfl, rfl, rfl⟩, out, q1⟩
def wSeq (w : WE) : WI := fun δ P => w δ fun r δ1 => match r with
  | .d (.tuple xs) => P xs δ1
  | .d (.list xs) => P xs δ1
  | .l xs => P xs δ1
  | _ => False
theorem walkd_list {K : PySem.W.Frag} {G : Hp} {a : Addr} {xs : List V} {ds : List PyData} (hs : SqL K G a xs) (h : DpAll K G xs ds) : WalkD K G (Itl K a) ds := by
  refine ⟨fun H => SqL K H a xs, YAt xs, ?_, fun H1 s => sl_mono s hs, fun i H1 x H2 d e _ y => ?_⟩
  · rw [← da_len h]; exact walk_list
  · obtain ⟨y1, y2⟩ := y
    obtain ⟨d', e1, e2⟩ := da_getV h y2
    rw [e] at e1; cases e1
    exact .inl ⟨y1, e2⟩
theorem walkd_tup {K : PySem.W.Frag} {G : Hp} {a : Addr} {xs : List V} {ds : List PyData} (hs : SqT K G a xs) (h : DpAll K G xs ds) : WalkD K G (Itt K a) ds := by
  refine ⟨fun H => SqT K H a xs, YAt xs, ?_, fun H1 s => st_mono s hs, fun i H1 x H2 d e _ y => ?_⟩
  · rw [← da_len h]; exact walk_tup
  · obtain ⟨y1, y2⟩ := y
    obtain ⟨d', e1, e2⟩ := da_getV h y2
    rw [e] at e1; cases e1
    exact .inl ⟨y1, e2⟩
theorem di_seq (h : DE X e we) : DI X tg e (wSeq we) := by
  refine pi_weak (pi_seq h) fun σ H R ⟨O, δ, P, R0, w, f⟩ => ?_
  refine ⟨O, δ, _, R0, w, fun r δ1 v H1 w1 s1 R1 k1 => ?_⟩
  have go : ∀ xs, (r = .d (.list xs) ∨ r = .l xs) → P xs δ1 → ∃ a, v = .ref a ∧ (((∃ xs, SqL X.K H1 a xs) ∧ R (Itl X.K a) H1) ∨ ((∃ xs, SqT X.K H1 a xs) ∧ R (Itt X.K a) H1)) := fun xs hr pp => by
    have dp : Dp X.K (hid H1 O) v (.list xs) := by
      rcases hr with rfl | rfl
      · exact k1
      · rcases held0 R0 k1 R1 with z | ⟨p, vs, ds, e1, e2, h1, h2⟩
        · exact z
        · obtain ⟨p, vs, rfl, n, e, ha, hr⟩ := k1
          refine .lst (.inl (.inl ?_)) (DpAll.up ha (hid_sub fun a z => .inl z))
          rw [hid_no (R0.fresh n)]; exact e
    cases dp with
    | lst hs ha => exact ⟨_, rfl, .inl ⟨⟨_, sl_mono hid_le hs⟩, f _ _ _ _ pp s1 R1 (walkd_list hs ha)⟩⟩
  cases r with
  | b i xs => exact w1.elim
  | l xs => exact go xs (.inr rfl) w1
  | d x =>
    cases x <;> first | exact False.elim w1 | skip
    · exact go _ (.inl rfl) w1
    · have k1 : Dp X.K (hid H1 O) v (.tuple _) := k1
      cases k1 with
      | tup hs ha => exact ⟨_, rfl, .inr ⟨⟨_, st_mono hid_le (.inl (.inl hs))⟩, f _ _ _ _ w1 s1 R1 (walkd_tup (.inl (.inl hs)) ha)⟩⟩
def rangeD (lo : Int) : Nat → List PyData
  | 0 => []
  | n + 1 => .int lo :: rangeD (lo + 1) n
theorem rangeD_len (lo : Int) : ∀ n, (rangeD lo n).length = n
  | 0 => rfl
  | n + 1 => by show (rangeD (lo + 1) n).length + 1 = n + 1; rw [rangeD_len (lo + 1) n]
theorem rangeD_get : ∀ {n : Nat} {lo : Int} {i : Nat} {d : PyData}, (rangeD lo n)[i]? = some d → d = .int (lo + i)
  | 0, _, _, _, h => by simp [rangeD] at h
  | n + 1, lo, 0, d, h => by
    have : PyData.int lo = d := Option.some.inj h
    rw [← this]; simp
  | n + 1, lo, i + 1, d, h => by
    have := rangeD_get (n := n) (lo := lo + 1) (i := i) (d := d) h
    rw [this]
    congr 1
    omega
theorem walkd_range {K : PySem.W.Frag} {G : Hp} {lo : Int} {n : Nat} : WalkD K G (Itr lo n) (rangeD lo n) := by
  refine ⟨fun _ => True, YFn fun i => .int (lo + i), ?_, fun _ _ => trivial, fun i H1 x H2 d e _ y => ?_⟩
  · rw [rangeD_len]; exact walk_range
  · obtain ⟨y1, y2⟩ := y
    rw [rangeD_get e, y2]
    exact .inl ⟨y1, .int _⟩
def wRng1 (u : WA) : WI := fun δ P => u δ fun rs δ1 => match rs with
  | [.d (.int j)] => (-(2 ^ 62) ≤ j ∧ j < 2 ^ 62) ∧ P (rangeD 0 j.toNat) δ1
  | _ => False
def wRng2 (u : WA) : WI := fun δ P => u δ fun rs δ1 => match rs with
  | [.d (.int i), .d (.int j)] => (-(2 ^ 62) ≤ i ∧ i < 2 ^ 62 ∧ -(2 ^ 62) ≤ j ∧ j < 2 ^ 62) ∧ P (rangeD i (j - i).toNat) δ1
  | _ => False
theorem di_range1 (hg : Gl X "range") (hm : X.mg "range" = none) (ha : DA X [a] ua) (hs : starEach [a] X.env = [(false, eval a X.env)] := by rfl) : DI X tg (.Call (.Name "range" p) [a] [] pos) (wRng1 ua) := by
  refine pi_weak (pi_range1 hg hm ha hs) fun σ H R ⟨O, δ, P, R0, w, f⟩ => ?_
  refine ⟨O, δ, _, R0, w, fun rs δ1 vs H1 w1 s1 R1 k1 => ?_⟩
  split at w1
  · rename_i j
    have dp := RvsOk.dp R0 R1 k1 rfl
    cases dp with
    | cons h1 h2 => cases h2; cases h1; exact ⟨j, rfl, w1.1.1, w1.1.2, f _ _ _ _ w1.2 s1 R1 walkd_range⟩
  · exact w1.elim
def enumD (i : Nat) : List PyData → List PyData
  | [] => []
  | x :: r => .tuple [.int i, x] :: enumD (i + 1) r
theorem walkd_pair {K : PySem.W.Frag} {G : Hp} {J : It} {n : Nat} {GG : Hp → Prop} {xs ys : Nat → Option V} {ds : List PyData} (w : Walk J n GG (YPair xs ys)) (hn : n = ds.length) (hG : ∀ H1, Same G H1 → GG H1)
    (hd : ∀ i d, ds[i]? = some d → ∃ d1 d2, d = .tuple [d1, d2] ∧ (∀ v, xs i = some v → Dp K G v d1) ∧ (∀ v, ys i = some v → Dp K G v d2)) : WalkD K G J ds := by
  subst hn
  refine ⟨GG, _, w, hG, fun i H1 x H2 d e _ y => ?_⟩
  obtain ⟨T, x1, x2, e1, e2, e3, e4, e5⟩ := y
  obtain ⟨d1, d2, q1, q2, q3⟩ := hd i d e
  exact .inr ⟨T, x1, x2, d1, d2, e1, e2, e3, q1, q2 _ e4, q3 _ e5⟩
end
section
variable {P : Program} {w : World}
end
section
variable {X : Cx} {tg a b c e e2 : Expr} {we : WE} {pos p p2 tpos : Pos} {es elts : List Expr} {ua : WA} {kk : Nat}
def wEnum (u : WA) : WI := fun δ P => u δ fun rs δ1 => match rs with
  | [.d (.tuple xs)] => P (enumD 0 xs) δ1
  | [.d (.list xs)] => P (enumD 0 xs) δ1
  | [.l xs] => P (enumD 0 xs) δ1
  | _ => False
def zipD : List PyData → List PyData → List PyData
  | x :: xs, y :: ys => .tuple [x, y] :: zipD xs ys
  | _, _ => []
theorem zipD_len : ∀ (xs ys : List PyData), (zipD xs ys).length = min xs.length ys.length
  | [], ys => by simp [zipD]
  | x :: xs, [] => by simp [zipD]
  | x :: xs, y :: ys => by
    show (zipD xs ys).length + 1 = min (xs.length + 1) (ys.length + 1)
    rw [zipD_len xs ys]
    omega
theorem zipD_get : ∀ {xs ys : List PyData} {i : Nat} {d : PyData}, (zipD xs ys)[i]? = some d → ∃ x y, xs[i]? = some x ∧ ys[i]? = some y ∧ d = .tuple [x, y]
  | [], _, _, _, h => by simp [zipD] at h
  | _ :: _, [], _, _, h => by simp [zipD] at h
  | x :: xs, y :: ys, 0, d, h => ⟨x, y, rfl, rfl, (Option.some.inj h).symm⟩
  | x :: xs, y :: ys, i + 1, d, h => zipD_get (xs := xs) (ys := ys) (i := i) (d := d) h
def wZip (u : WA) : WI := fun δ P => u δ fun rs δ1 => rs.all noB = true ∧ match rs.map Rv.as with
  | [.tuple xs, .tuple ys] => P (zipD xs ys) δ1
  | [.list xs, .list ys] => P (zipD xs ys) δ1
  | [.list xs, .tuple ys] => P (zipD xs ys) δ1
  | [.tuple xs, .list ys] => P (zipD xs ys) δ1
  | _ => False
theorem zip_dp {K : PySem.W.Frag} {G : Hp} {xs ys : List V} {ds es : List PyData} (h : DpAll K G xs ds) (h2 : DpAll K G ys es) : ∀ (i : Nat) (d : PyData), (zipD ds es)[i]? = some d → ∃ d1 d2, d = .tuple [d1, d2] ∧ (∀ v, xs[i]? = some v → Dp K G v d1) ∧ (∀ v, ys[i]? = some v → Dp K G v d2) := by
  intro i d e
  obtain ⟨x, y, e1, e2, e3⟩ := zipD_get e
  refine ⟨_, _, e3, fun v q => ?_, fun v q => ?_⟩
  · obtain ⟨d', q1, q2⟩ := da_getV h q
    rw [e1] at q1; cases q1
    exact q2
  · obtain ⟨d', q1, q2⟩ := da_getV h2 q
    rw [e2] at q1; cases q1
    exact q2
end
def SqB (f : Bool) (K : PySem.W.Frag) (H : Hp) (a : Addr) (xs : List V) : Prop := match f with
  | true => SqL K H a xs
  | false => SqT K H a xs
def itB (f : Bool) (h : Heap) (it l : Addr) (i : Nat) : Prop := match f with
  | true => h.IsListIter it l i
  | false => h.IsTupleIter it l i
def isB (f : Bool) (h : Heap) (l : Addr) (us : Array Value) : Prop := match f with
  | true => h.IsList l us
  | false => h.IsTuple l us
def itO (f : Bool) (l : Addr) : Obj := match f with
  | true => { cls := .type "list_iterator", data := .fields #[.ref l, .int 0 0] }
  | false => { cls := .type "tuple_iterator", data := .fields #[.ref l, .int 0 0] }
section
variable {P : Program} {w : World} {K : PySem.W.Frag} {f f2 : Bool} {H : Hp} {a b : Addr} {xs ys : List V}
theorem sqB_mono {H' : Hp} (s : Same H H') (h : SqB f K H a xs) : SqB f K H' a xs := by
  cases f with
  | true => exact sl_mono s h
  | false => exact st_mono s h
theorem drawsB {A : Around} (hh : A.handled = none) (it l : Addr) (ne : l ≠ it) (us : Array Value) : Draws P w A it [it, l] us.size (fun i v => us[i]? = some v) (fun i h => itB f h it l i ∧ isB f h l us) := by
  cases f with
  | true => exact Draws.list hh it l ne us
  | false => exact Draws.tuple hh it l ne us
theorem beginsB (l : Addr) (us : Array Value) : Begins (.ref l) (itO f l) fun h => isB f h l us := by
  cases f with
  | true => exact begins_list l us
  | false => exact begins_tuple l us
theorem itB_obj {h : Heap} {it l : Addr} {i : Nat} (st : itB f h it l i) : ∃ o vs, h.get? it = some o ∧ o.data = .fields vs := by
  cases f with
  | true => obtain ⟨o, ho, _, hd⟩ := st; exact ⟨o, _, ho, hd⟩
  | false => obtain ⟨o, ho, _, hd⟩ := st; exact ⟨o, _, ho, hd⟩
theorem itB_keep {h h' : Heap} {it l : Addr} {i : Nat} (st : itB f h it l i) (k : ∀ o, h.get? it = some o → h'.get? it = some o) : itB f h' it l i := by
  cases f with
  | true => obtain ⟨o, ho, r⟩ := st; exact ⟨o, k o ho, r⟩
  | false => obtain ⟨o, ho, r⟩ := st; exact ⟨o, k o ho, r⟩
theorem itB_new {h : Heap} {it l : Addr} (e : h.get? it = some (itO f l)) : itB f h it l 0 := by
  cases f with
  | true => exact ⟨_, e, rfl, rfl⟩
  | false => exact ⟨_, e, rfl, rfl⟩
theorem seqB {X : Cx} {pins : List (Addr × Obj)} {σ : L2.St} {s : Shared} (I : Inv X pins σ H s) (h : SqB f X.K H a xs) : ∃ its : List Value, Vals xs its ∧ isB f s.heap a its.toArray ∧ (∃ o us m, s.heap.get? a = some o ∧ o.data = .seq us m) ∧ ∀ zs, SqB f X.K H a zs → zs = xs := by
  cases f with
  | true =>
    obtain ⟨its, rv, p, _⟩ := I.list h
    obtain ⟨o, n, ho, hc, _, hd⟩ := id p
    exact ⟨its, rv, p.isList, ⟨o, _, n, ho, hd⟩, fun zs hz => I.list_inj hz h⟩
  | false =>
    obtain ⟨its, rv, p, _⟩ := I.tuple h
    obtain ⟨o, ho, hc, n, hd⟩ := id p
    exact ⟨its, rv, p, ⟨o, _, n, ho, hd⟩, fun zs hz => I.tuple_inj hz h⟩
def ItX (f f2 : Bool) (K : PySem.W.Frag) (a b : Addr) : It where
  go := fun i H => ∃ (xs ys : List V) (x y : V), SqB f K H a xs ∧ SqB f2 K H b ys ∧ xs[i]? = some x ∧ ys[i]? = some y ∧ True
  yld := fun i H v H' => ∃ T x y, v = .ref T ∧ H T = none ∧ H' = upd H T (.tup [x, y]) ∧ (∀ xs, SqB f K H a xs → xs[i]? = some x) ∧ (∀ ys, SqB f2 K H b ys → ys[i]? = some y) ∧ True
  stop := fun i H => ∃ xs ys : List V, SqB f K H a xs ∧ SqB f2 K H b ys ∧ i = min xs.length ys.length
theorem turn_zipX {elts : List Expr} {kk : Nat} {tpos : Pos} {z TI TO i1 i2 : Addr} (S : ZipSep2 z TI TO i1 i2 [i1, a] [i2, b]) :
    Turn P w K (.Tuple elts kk tpos) (ItX f f2 K a b) [z, TI, TO, i1, i2] z (fun i h => IsZip h z TI TO .none ∧ IsTupOf2 h TI (.ref i1) (.ref i2) ∧ (∃ x y, IsTupOf2 h TO x y) ∧ itB f h i1 a i ∧ itB f2 h i2 b i ∧ a ≠ i1 ∧ b ≠ i2) where
  mem := by simp
  obj := by
    rintro i h ⟨hz, hTI, ⟨x, y, hTO⟩, h1, h2, _⟩ c hc
    rcases (show c = z ∨ c = TI ∨ c = TO ∨ c = i1 ∨ c = i2 by simpa using hc) with rfl | rfl | rfl | rfl | rfl
    · exact ⟨_, hz, fun v q => nomatch q⟩
    · exact ⟨_, hTI, fun v q => nomatch q⟩
    · exact ⟨_, hTO, fun v q => nomatch q⟩
    · obtain ⟨o, vs, e, d⟩ := itB_obj h1
      exact ⟨o, e, fun v q => by rw [d] at q; cases q⟩
    · obtain ⟨o, vs, e, d⟩ := itB_obj h2
      exact ⟨o, e, fun v q => by rw [d] at q; cases q⟩
  keep := by
    rintro i h h' ⟨hz, hTI, ⟨x, y, hTO⟩, h1, h2, n1, n2⟩ k
    exact ⟨k z (by simp) _ hz, k TI (by simp) _ hTI, ⟨x, y, k TO (by simp) _ hTO⟩, itB_keep h1 (k i1 (by simp)), itB_keep h2 (k i2 (by simp)), n1, n2⟩
  item := by
    intro X hP hw hK hc i pins s σ H E I hf st hg
    subst hP hw hK
    obtain ⟨hz, hTI, ⟨x0, y0, hTO⟩, h1, h2, n1, n2⟩ := st
    obtain ⟨xs, ys, x, y, qx, qy, ex, ey, _⟩ := hg
    obtain ⟨us, r1, p1, _, j1⟩ := seqB I qx
    obtain ⟨vs, r2, p2, _, j2⟩ := seqB I qy
    obtain ⟨u, eu, ru⟩ := r1.get ex
    obtain ⟨v, ev, rv⟩ := r2.get ey
    have l1 : i < us.toArray.size := by rw [List.size_toArray]; exact (List.getElem?_eq_some_iff.mp eu).1
    have l2 : i < vs.toArray.size := by rw [List.size_toArray]; exact (List.getElem?_eq_some_iff.mp ev).1
    have zl : z < s.heap.objs.size := Heap.lt_size hz
    refine wpAny_pyNext_zipD2_item S (drawsB (A := X.A.in1) (I.ok.hd hc) i1 a n1 us.toArray) (drawsB (A := X.A.in1) (I.ok.hd hc) i2 b n2 vs.toArray) hz hTI hTO ⟨h1, p1⟩ ⟨h2, p2⟩ l1 l2 fun u' v' h' tk g1 g2 z' TO' s1 s2 hT _ hk => ?_
    obtain rfl : u = u' := by
      have g1 : us[i]? = some u' := by simpa using g1
      rw [eu] at g1; cases g1; rfl
    obtain rfl : v = v' := by
      have g2 : vs[i]? = some v' := by simpa using g2
      rw [ev] at g2; cases g2; rfl
    refine ⟨_, rfl, wpAny_letOwnedTupleGo_zip (s := { s with heap := h', toks := tk }) z' fun hh z2 sb => ?_⟩
    have hT2 : hh.get? s.heap.objs.size = some { cls := .type "tuple", data := .seq #[u, v] } := (sb.2 _ (Nat.ne_of_gt zl)).trans hT
    have made : ObjOk X.prog X.w (upd H s.heap.objs.size (.tup [x, y])) hh s.heap.objs.size (.tup [x, y]) := ⟨by show 2 ≤ sizeLine; decide, [u, v], .cons ru (.cons rv .nil), ⟨_, hT2, rfl, _, rfl⟩⟩
    have I1 : Inv X pins σ (upd H s.heap.objs.size (.tup [x, y])) { s with heap := hh, toks := tk } :=
      I.turnedNew (ch := [z, TI, TO, i1, i2]) (fun c o hb q => (sb.2 c (fun e => hb (by simp [e]))).trans (hk c o (fun e => hb (by simp [e])) (fun e => hb (by simp [e])) (fun e => hb (by simp [e])) (fun e => hb (by simp [e])) q)) hf (Nat.le_refl _) made
    have zi1 : i1 ≠ z := fun e => S.zi1 e.symm
    have zi2 : i2 ≠ z := fun e => S.zi2 e.symm
    refine ⟨.ref s.heap.objs.size, _, I1, rfl, ⟨_, x, y, rfl, I.hok.fresh (Nat.le_refl _), rfl, fun l hl => by rw [j1 l hl]; exact ex, fun l hl => by rw [j2 l hl]; exact ey, trivial⟩, ⟨z2, (sb.2 _ S.TIz).trans (hk _ _ S.TIz S.TITO S.TIi1 S.TIi2 hTI), ⟨u, v, (sb.2 _ S.TOz).trans TO'⟩, itB_keep s1.1 (fun o q => (sb.2 _ zi1).trans q), itB_keep s2.1 (fun o q => (sb.2 _ zi2).trans q), n1, n2⟩, fun c hcm => ?_⟩
    have lt : c < s.heap.objs.size := by
      rcases (show c = z ∨ c = TI ∨ c = TO ∨ c = i1 ∨ c = i2 by simpa using hcm) with rfl | rfl | rfl | rfl | rfl
      · exact zl
      · exact Heap.lt_size hTI
      · exact Heap.lt_size hTO
      · obtain ⟨o, _, e, _⟩ := itB_obj h1; exact Heap.lt_size e
      · obtain ⟨o, _, e, _⟩ := itB_obj h2; exact Heap.lt_size e
    rw [upd_ne (Nat.ne_of_lt lt)]
    exact (hf c hcm).1
  done := by
    intro X hP hw hK hc i pins s σ H E I hf st hg
    subst hP hw hK
    obtain ⟨hz, hTI, ⟨x0, y0, hTO⟩, h1, h2, n1, n2⟩ := st
    obtain ⟨xs, ys, qx, qy, hend⟩ := hg
    obtain ⟨us, r1, p1, _, j1⟩ := seqB I qx
    obtain ⟨vs, r2, p2, _, j2⟩ := seqB I qy
    have l1 := r1.length
    have l2 := r2.length
    exact wpAny_pyNext_zipD2_end S (drawsB (A := X.A.in1) (I.ok.hd hc) i1 a n1 us.toArray) (drawsB (A := X.A.in1) (I.ok.hd hc) i2 b n2 vs.toArray) hz hTI hTO ⟨h1, p1⟩ ⟨h2, p2⟩ (by rw [List.size_toArray]; omega) (by rw [List.size_toArray]; omega) (by rw [List.size_toArray, List.size_toArray]; omega) fun h' tk hk =>
      ⟨rfl, I.turnedL (ch := [z, TI, TO, i1, i2]) (fun c o hb q => hk c o (fun e => hb (by simp [e])) (fun e => hb (by simp [e])) (fun e => hb (by simp [e])) (fun e => hb (by simp [e])) q) hf⟩
  self := fun A i s Q E st h => wpAny_pyIter_zip st.1 h
end
section
variable {X : Cx} {tg a b c e e2 : Expr} {we : WE} {pos p p2 tpos : Pos} {es elts : List Expr} {ua : WA} {kk : Nat}
theorem pi_zipX {ta : TA} (hg : Gl X "zip") (hm : X.mg "zip" = none) (ha : PA X [e, e2] ta) (hs : starEach [e, e2] X.env = (false, eval e X.env) :: starEach [e2] X.env := by rfl) (hs2 : (backTo pos (starEach [e2] X.env)).any (·.1) = false := by rfl) :
    PI X (.Tuple elts kk tpos) (.Call (.Name "zip" p) [e, e2] [] pos) (fun σ H R => ta σ H fun vs H1 => ∃ f f2 a b xs ys, vs = [.ref a, .ref b] ∧ SqB f X.K H1 a xs ∧ SqB f2 X.K H1 b ys ∧ R (ItX f f2 X.K a b) H1) := by
  refine ⟨fun pins s σ H R I q => Call_ (ld_blt I hg hm PyProof.Rows.boot_zip (PyProof.Rows.callWith_type1 (thn (ha.run pos pins s σ H _ I q) fun us s1 ⟨vs, H1, I1, r1, q1⟩ => ?_) hs hs2))⟩
  obtain ⟨f, f2, a, b, xs, ys, rfl, qx, qy, q1⟩ := q1
  obtain ⟨u, v, rfl, ru, rv⟩ := vals2 r1
  cases ru
  cases rv
  obtain ⟨us, _, p1, ⟨o1, _, _, g1, _⟩, _⟩ := seqB I1 qx
  obtain ⟨vs, _, p2, ⟨o2, _, _, g2, _⟩, _⟩ := seqB I1 qy
  have la : a < s1.heap.objs.size := Heap.lt_size g1
  have lb : b < s1.heap.objs.size := Heap.lt_size g2
  refine zip_begins2 (beginsB a us.toArray) (beginsB b vs.toArray) p1 p2 fun h' hz hTI hTO h1 h2 _ hk => wpAny_pyIter_zip hz ?_
  have I2 : Inv X pins σ H1 { s1 with heap := h' } := I1.kept (t' := s1.toks) hk
  refine ⟨s1.heap.objs.size + 4, [s1.heap.objs.size + 4, s1.heap.objs.size + 2, s1.heap.objs.size + 3, s1.heap.objs.size, s1.heap.objs.size + 1], _, _, H1, rfl, I2, turn_zipX (zip_sep2 (fun c hc => by rw [List.mem_singleton.mp hc]; exact la) (fun c hc => by rw [List.mem_singleton.mp hc]; exact lb)), ⟨hz, hTI, ⟨_, _, hTO⟩, itB_new h1, itB_new h2, Nat.ne_of_lt la, Nat.ne_of_lt (Nat.lt_succ_of_lt lb)⟩, fun c hc => ?_, q1⟩
  have le : s1.heap.objs.size ≤ c := by
    rcases (show c = s1.heap.objs.size + 4 ∨ c = s1.heap.objs.size + 2 ∨ c = s1.heap.objs.size + 3 ∨ c = s1.heap.objs.size ∨ c = s1.heap.objs.size + 1 by simpa using hc) with z | z | z | z | z <;> (rw [z]; first | exact Nat.le_add_right _ _ | exact Nat.le_refl _)
  exact I1.fpOk le (I1.hok.fresh le)
theorem walk_zipX {f f2 : Bool} {K : PySem.W.Frag} {a b : Addr} {xs ys : List V} {n : Nat} (hn : n = min xs.length ys.length) : Walk (ItX f f2 K a b) n (fun H => SqB f K H a xs ∧ SqB f2 K H b ys) (YPair (fun i => xs[i]?) (fun i => ys[i]?)) := by
  subst hn
  refine ⟨fun i H hi ⟨q1, q2⟩ => ?_, fun H ⟨q1, q2⟩ => ⟨xs, ys, q1, q2, rfl⟩, fun i H v H' _ ⟨q1, q2⟩ ⟨T, x, y, e1, e2, e3, e4, e5, _⟩ => ⟨T, x, y, e1, e2, e3, e4 xs q1, e5 ys q2⟩⟩
  exact ⟨xs, ys, xs[i], ys[i], q1, q2, List.getElem?_eq_getElem (by omega), List.getElem?_eq_getElem (by omega), trivial⟩
theorem dp_sqB {K : PySem.W.Frag} {G : Hp} {v : V} {d : PyData} {ds : List PyData} (h : Dp K G v d) (e : d = .list ds ∨ d = .tuple ds) : ∃ f a xs, v = .ref a ∧ SqB f K G a xs ∧ DpAll K G xs ds := by
  rcases e with rfl | rfl
  · cases h with
    | lst hs ha => exact ⟨true, _, _, rfl, hs, ha⟩
  · cases h with
    | tup hs ha => exact ⟨false, _, _, rfl, .inl (.inl hs), ha⟩
theorem di_zip (hg : Gl X "zip") (hm : X.mg "zip" = none) (ha : DA X [e, e2] ua) (hs : starEach [e, e2] X.env = (false, eval e X.env) :: starEach [e2] X.env := by rfl) (hs2 : (backTo pos (starEach [e2] X.env)).any (·.1) = false := by rfl) : DI X (.Tuple elts kk tpos) (.Call (.Name "zip" p) [e, e2] [] pos) (wZip ua) := by
  refine pi_weak (pi_zipX hg hm ha hs hs2) fun σ H R ⟨O, δ, P, R0, w, f⟩ => ?_
  refine ⟨O, δ, _, R0, w, fun rs δ1 vs H1 w1 s1 R1 k1 => ?_⟩
  have dp := RvsOk.dp R0 R1 k1 w1.1
  obtain ⟨_, w1⟩ := w1
  have go : ∀ d1 d2 xs ys, rs.map Rv.as = [d1, d2] → (d1 = .list xs ∨ d1 = .tuple xs) → (d2 = .list ys ∨ d2 = .tuple ys) → P (zipD xs ys) δ1 → ∃ f f2 a b xs ys, vs = [.ref a, .ref b] ∧ SqB f X.K H1 a xs ∧ SqB f2 X.K H1 b ys ∧ R (ItX f f2 X.K a b) H1 := fun d1 d2 xs ys q q1 q2 pp => by
    rw [q] at dp
    cases dp with
    | cons h1 h2 =>
      cases h2 with
      | cons h2 h3 =>
        cases h3
        obtain ⟨g1, a, us, rfl, z1, ha⟩ := dp_sqB h1 q1
        obtain ⟨g2, b, zs, rfl, z2, hb⟩ := dp_sqB h2 q2
        exact ⟨g1, g2, a, b, us, zs, rfl, sqB_mono hid_le z1, sqB_mono hid_le z2, f _ _ _ _ pp s1 R1 (walkd_pair (walk_zipX rfl) (by rw [zipD_len, da_len ha, da_len hb]) (fun H2 s => ⟨sqB_mono s z1, sqB_mono s z2⟩) (zip_dp ha hb))⟩
  split at w1
  · rename_i q; exact go _ _ _ _ q (.inr rfl) (.inr rfl) w1
  · rename_i q; exact go _ _ _ _ q (.inl rfl) (.inl rfl) w1
  · rename_i q; exact go _ _ _ _ q (.inl rfl) (.inr rfl) w1
  · rename_i q; exact go _ _ _ _ q (.inr rfl) (.inl rfl) w1
  · exact w1.elim
end
end Dw
namespace Dw
open PySem PySem.Spec PyProof.Rows L2
abbrev WB := PyData → Dl → (Dl → Prop) → Prop
abbrev WBs := List PyData → Dl → (Dl → Prop) → Prop
structure Bd (js : List Nat) (δ δ' : Dl) (σ σ' : L2.St) : Prop where
  lσ : σ'.length = σ.length
  lδ : δ'.length = δ.length
  eσ : ∀ (i : Nat), i ∉ js → σ'[i]? = σ[i]?
  eδ : ∀ (i : Nat), i ∉ js → δ'[i]? = δ[i]?
  no : ∀ (i : Nat) xs, i ∈ js → δ'[i]? ≠ some (Sl.o xs)
  nm : ∀ (i : Nat) xs, i ∈ js → δ'[i]? ≠ some (Sl.m xs)
  ns : ∀ (i : Nat) o, i ∈ js → δ'[i]? ≠ some (Sl.s o)
theorem Bd.refl {δ : Dl} {σ : L2.St} : Bd [] δ δ σ σ := ⟨rfl, rfl, fun _ _ => rfl, fun _ _ => rfl, (fun _ _ z => nomatch z), (fun _ _ z => nomatch z), (fun _ _ z => nomatch z)⟩
theorem Bd.trans {js ks : List Nat} {δ δ1 δ2 : Dl} {σ σ1 σ2 : L2.St} (a : Bd js δ δ1 σ σ1) (b : Bd ks δ1 δ2 σ1 σ2) : Bd (js ++ ks) δ δ2 σ σ2 := by
  refine ⟨b.lσ.trans a.lσ, b.lδ.trans a.lδ, fun i h => ?_, fun i h => ?_, fun i xs h => ?_, fun i xs h => ?_, fun i xs h => ?_⟩
  · rw [List.mem_append, not_or] at h
    exact (b.eσ i h.2).trans (a.eσ i h.1)
  · rw [List.mem_append, not_or] at h
    exact (b.eδ i h.2).trans (a.eδ i h.1)
  · by_cases k : i ∈ ks
    · exact b.no i xs k
    · rw [b.eδ i k]
      exact a.no i xs ((List.mem_append.mp h).resolve_right k)
  · by_cases k : i ∈ ks
    · exact b.nm i xs k
    · rw [b.eδ i k]
      exact a.nm i xs ((List.mem_append.mp h).resolve_right k)
  · by_cases k : i ∈ ks
    · exact b.ns i xs k
    · rw [b.eδ i k]
      exact a.ns i xs ((List.mem_append.mp h).resolve_right k)
theorem rep_set {K : PySem.W.Frag} {O : Addr → Prop} {δ : Dl} {σ : L2.St} {H : Hp} {j : Nat} {v : V} {x : PyData} (R : Rep K O δ σ H) (d : Dp K (hid H O) v x) : Rep K O (δ.set j (.d x)) (σ.set j (some v)) H := by
  have hl : δ.length = σ.length := R.len
  refine ⟨by rw [List.length_set, List.length_set]; exact hl, fun i y e => ?_, fun i xs e => ?_, fun i k xs ys a e1 e2 e3 e4 => ?_, R.occ, R.ex.put rfl⟩
  · rw [get_set] at e ⊢
    by_cases h : j = i
    · rw [if_pos h] at e ⊢
      by_cases hj : j < δ.length
      · rw [if_pos hj] at e
        cases e
        exact ⟨v, by rw [if_pos (by omega)], d⟩
      · rw [if_neg hj] at e; cases e
    · rw [if_neg h] at e ⊢
      exact R.dat i y e
  · rw [get_set] at e ⊢
    by_cases h : j = i
    · rw [if_pos h] at e
      split at e <;> cases e
    · rw [if_neg h] at e ⊢
      exact R.lst i xs e
  · have c : ∀ (i : Nat) (xs : List PyData), (δ.set j (Sl.d x))[i]? = some (Sl.o xs) → δ[i]? = some (Sl.o xs) ∧ j ≠ i := fun i xs e => by
      rw [get_set] at e
      by_cases h : j = i
      · rw [if_pos h] at e
        split at e <;> cases e
      · rw [if_neg h] at e; exact ⟨e, h⟩
    obtain ⟨c1, n1⟩ := c i xs e1
    obtain ⟨c2, n2⟩ := c k ys e2
    rw [get_set, if_neg n1] at e3
    rw [get_set, if_neg n2] at e4
    exact R.inj i k xs ys a c1 c2 e3 e4
theorem bd_set {δ : Dl} {σ : L2.St} {j : Nat} {v : V} {x : PyData} : Bd [j] δ (δ.set j (.d x)) σ (σ.set j (some v)) := by
  refine ⟨List.length_set, List.length_set, fun i h => ?_, fun i h => ?_, fun i xs h => ?_, fun i xs h => ?_, fun i xs h => ?_⟩
  · exact List.getElem?_set_ne (fun z => h (by simp [z]))
  · exact List.getElem?_set_ne (fun z => h (by simp [z]))
  · obtain rfl : i = j := by simpa using h
    rw [get_set, if_pos rfl]
    split
    · exact fun z => nomatch z
    · exact fun z => nomatch z
  · obtain rfl : i = j := by simpa using h
    rw [get_set, if_pos rfl]
    split
    · exact fun z => nomatch z
    · exact fun z => nomatch z
  · obtain rfl : i = j := by simpa using h
    rw [get_set, if_pos rfl]
    split
    · exact fun z => nomatch z
    · exact fun z => nomatch z
def liftG (K : PySem.W.Frag) (js : List Nat) (b : WB) : TG := fun v σ H Q => ∃ O δ x P, Rep K O δ σ H ∧ Dp K (hid H O) v x ∧ b x δ P ∧ ∀ δ' σ', P δ' → Bd js δ δ' σ σ' → Rep K O δ' σ' H → Q σ' H
def liftGs (K : PySem.W.Frag) (js : List Nat) (b : WBs) : TGs := fun vs σ H Q => ∃ O δ xs P, Rep K O δ σ H ∧ DpAll K (hid H O) vs xs ∧ b xs δ P ∧ ∀ δ' σ', P δ' → Bd js δ δ' σ σ' → Rep K O δ' σ' H → Q σ' H
def DG (X : Cx) (e : Expr) (js : List Nat) (b : WB) : Prop := PG X e (liftG X.K js b)
def DGs (X : Cx) (es : List Expr) (js : List Nat) (b : WBs) : Prop := PGs X es (liftGs X.K js b)
section
variable {X : Cx} {tg e : Expr} {pos : Pos} {es : List Expr} {js ks : List Nat} {b : WB} {bs : WBs}
theorem pg_weak {t t' : TG} (h : PG X tg t) (f : ∀ v σ H Q, t' v σ H Q → t v σ H Q) : PG X tg t' := ⟨fun pins s σ H v u Q I r q => h.run pins s σ H v u Q I r (f v σ H Q q)⟩
theorem pgs_weak {t t' : TGs} (h : PGs X es t) (f : ∀ v σ H Q, t' v σ H Q → t v σ H Q) : PGs X es t' := ⟨fun pins s σ H v u Q I r q => h.run pins s σ H v u Q I r (f v σ H Q q)⟩
def bN (j : Nat) : WB := fun x δ P => P (δ.set j (.d x))
theorem dg_name (j : Nat) {x : Str} (hN : X.N.Nodup) (hi : X.N[j]? = some x := by rfl) (hx : Loc X.env.scope x := by first | exact Or.inl rfl | exact Or.inr rfl) (hf : X.fn x = true ∨ X.env.scope.names.lookup x = some .local := by first | exact .inl rfl | exact .inr rfl) : DG X (.Name x pos) [j] (bN j) :=
  pg_weak (pg_name hN hi hx hf) fun v σ H Q ⟨O, δ, x, P, R, d, w, f⟩ => f _ _ w bd_set (rep_set R d)
def bNil : WBs := fun xs δ P => match xs with
  | [] => P δ
  | _ => False
def bCons (b : WB) (bs : WBs) : WBs := fun xs δ P => match xs with
  | x :: r => b x δ fun δ1 => bs r δ1 P
  | _ => False
theorem dgs_nil : DGs X [] [] bNil := pgs_weak pgs_nil fun v σ H Q ⟨O, δ, xs, P, R, d, w, f⟩ => by
  cases d with
  | nil => exact ⟨rfl, f _ _ w Bd.refl R⟩
  | cons _ _ => exact w.elim
theorem dgs_cons (h : DG X e js b) (h2 : DGs X es ks bs) (hs : (assignEach (e :: es) X.env).map (·.2) = assign e X.env :: (assignEach es X.env).map (·.2) := by rfl) : DGs X (e :: es) (js ++ ks) (bCons b bs) := by
  refine pgs_weak (pgs_cons h h2 hs) fun v σ H Q ⟨O, δ, xs, P, R, d, w, f⟩ => ?_
  cases d with
  | nil => exact w.elim
  | cons d1 d2 => exact ⟨_, _, rfl, O, δ, _, _, R, d1, w, fun δ1 σ1 w1 b1 R1 => ⟨O, δ1, _, P, R1, d2, w1, fun δ2 σ2 w2 b2 R2 => f _ _ w2 (b1.trans b2) R2⟩⟩
def bTup (n : Nat) (bs : WBs) : WB := fun x δ P => match x with
  | .tuple xs => xs.length = n ∧ bs xs δ P
  | _ => False
theorem dg_tup {k n : Nat} (hc : X.calm = true) (h : DGs X es js bs) (hn : (assignEach es X.env).length = n := by rfl) (hst : (assignEach es X.env).findIdx? (·.1) = none := by rfl) : DG X (.Tuple es k pos) js (bTup n bs) := by
  refine pg_weak (pg_tup hc h hn hst) fun v σ H Q ⟨O, δ, x, P, R, d, w, f⟩ => ?_
  cases x <;> first | exact False.elim w | skip
  cases d with
  | tup hs ha => exact ⟨_, _, rfl, st_mono hid_le (.inl (.inl hs)), by rw [da_len ha]; exact w.1, O, δ, _, P, R, ha, w.2, f⟩
end
def wipeD (δ : Dl) : List Nat → Dl
  | [] => δ
  | v :: vs => (wipeD δ vs).set v .un
def isUn : Option Sl → Bool
  | some .un => true
  | _ => false
def unAll (δ : Dl) (vs : List Nat) : Bool := vs.all fun v => isUn δ[v]?
theorem wipeD_len (δ : Dl) : ∀ vs, (wipeD δ vs).length = δ.length
  | [] => rfl
  | v :: vs => by show ((wipeD δ vs).set v .un).length = _; rw [List.length_set, wipeD_len δ vs]
theorem wipeD_get (δ : Dl) (i : Nat) : ∀ vs, (i ∉ vs → (wipeD δ vs)[i]? = δ[i]?) ∧ (i ∈ vs → (wipeD δ vs)[i]? = if i < δ.length then some .un else none)
  | [] => ⟨fun _ => rfl, fun z => nomatch z⟩
  | v :: vs => by
    obtain ⟨h1, h2⟩ := wipeD_get δ i vs
    show (_ → ((wipeD δ vs).set v .un)[i]? = _) ∧ (_ → ((wipeD δ vs).set v .un)[i]? = _)
    rw [get_set]
    by_cases h : v = i
    · rw [if_pos h, wipeD_len]
      subst h
      exact ⟨fun z => absurd (by simp) z, fun _ => rfl⟩
    · rw [if_neg h]
      refine ⟨fun z => h1 fun q => z (by simp [q]), fun z => h2 ?_⟩
      rcases List.mem_cons.mp z with q | q
      · exact absurd q.symm h
      · exact q
theorem wipe_get (σ : L2.St) (i : Nat) : ∀ vs, (i ∉ vs → (wipe σ vs)[i]? = σ[i]?)
  | [] => fun _ => rfl
  | v :: vs => fun h => by
    show ((wipe σ vs).set v none)[i]? = _
    rw [List.getElem?_set_ne (fun z => h (by simp [z])), wipe_get σ i vs fun q => h (by simp [q])]
theorem wipe_eq {σ σ2 : L2.St} {vs : List Nat} (hl : σ2.length = σ.length) (h : ∀ (i : Nat), i ∉ vs → σ2[i]? = σ[i]?) : wipe σ2 vs = wipe σ vs := by
  have key : ∀ (σ : L2.St) (i : Nat) (ws : List Nat), i ∈ ws → (wipe σ ws)[i]? = if i < σ.length then some none else none := by
    intro σ i ws
    induction ws with
    | nil => intro z; cases z
    | cons v ws ih =>
      intro z
      show ((wipe σ ws).set v none)[i]? = _
      rw [get_set]
      by_cases q : v = i
      · rw [if_pos q, wipe_length, q]
      · rw [if_neg q]
        exact ih ((List.mem_cons.mp z).resolve_left fun w => q w.symm)
  apply List.ext_getElem?
  intro i
  by_cases q : i ∈ vs
  · rw [key σ2 i vs q, key σ i vs q, hl]
  · rw [wipe_get _ _ _ q, wipe_get _ _ _ q, h i q]
theorem wipe_wipe {σ : L2.St} {vs : List Nat} : wipe (wipe σ vs) vs = wipe σ vs := wipe_eq (wipe_length σ vs) fun i h => wipe_get σ i vs h
theorem rep_wipe {K : PySem.W.Frag} {O : Addr → Prop} {δ : Dl} {σ : L2.St} {H : Hp} (vs : List Nat) (R : Rep K O δ σ H) : Rep K O (wipeD δ vs) (wipe σ vs) H := by
  have at_ : ∀ (i : Nat) (s : Sl), s ≠ .un → (wipeD δ vs)[i]? = some s → i ∉ vs ∧ δ[i]? = some s := fun i s ns e => by
    by_cases q : i ∈ vs
    · rw [(wipeD_get δ i vs).2 q] at e
      split at e
      · exact absurd (Option.some.inj e).symm ns
      · cases e
    · rw [(wipeD_get δ i vs).1 q] at e
      exact ⟨q, e⟩
  refine ⟨by rw [wipeD_len, wipe_length]; exact R.len, fun i x e => ?_, fun i xs e => ?_, fun i j xs ys a e1 e2 e3 e4 => ?_, R.occ, R.ex.at (fun i s n e => ?_) fun i xs a e e2 => ?_⟩
  · obtain ⟨q, e⟩ := at_ i (.d x) (by intro z; cases z) e
    rw [wipe_get σ i vs q]
    exact R.dat i x e
  · obtain ⟨q, e⟩ := at_ i (.o xs) (by intro z; cases z) e
    rw [wipe_get σ i vs q]
    exact R.lst i xs e
  · obtain ⟨q1, e1⟩ := at_ i (.o xs) (by intro z; cases z) e1
    obtain ⟨q2, e2⟩ := at_ j (.o ys) (by intro z; cases z) e2
    rw [wipe_get σ i vs q1] at e3
    rw [wipe_get σ j vs q2] at e4
    exact R.inj i j xs ys a e1 e2 e3 e4
  · obtain ⟨q, e⟩ := at_ i s (by intro z; rw [z] at n; cases n) e
    exact ⟨e, wipe_get σ i vs q⟩
  · obtain ⟨q, e⟩ := at_ i (.o xs) (by intro z; cases z) e
    rw [wipe_get σ i vs q] at e2
    exact R.noS e e2
theorem unAll_wipe {δ : Dl} {vs : List Nat} (h : unAll δ vs = true) : wipeD δ vs = δ := by
  apply List.ext_getElem?
  intro i
  by_cases q : i ∈ vs
  · rw [(wipeD_get δ i vs).2 q]
    have := List.all_eq_true.mp h i q
    cases e : δ[i]? with
    | none => rw [e] at this; cases this
    | some s =>
      rw [e] at this
      cases s <;> first | cases this | skip
      rw [if_pos (List.getElem?_eq_some_iff.mp e).1]
  · exact (wipeD_get δ i vs).1 q
theorem wipeD_un {δ : Dl} {vs : List Nat} (hv : ∀ v ∈ vs, v < δ.length) : unAll (wipeD δ vs) vs = true := by
  refine List.all_eq_true.mpr fun v hv' => ?_
  rw [(wipeD_get δ v vs).2 hv', if_pos (hv v hv')]
  rfl
structure Blk (O : Addr → Prop) (D : Addr) (vs : List Nat) (δ δ' : Dl) (σ : L2.St) (H H' : Hp) : Prop where
  same : Same (hid H O) (hid H' O)
  frame : ∀ a, O a → a ≠ D → ¬ Own δ σ a → H' a = H a
  own : ∀ (i : Nat), i ∉ vs → ((∃ xs, δ'[i]? = some (Sl.o xs)) ↔ (∃ xs, δ[i]? = some (Sl.o xs)))
  dat : ∀ (i : Nat) (x : PyData), i ∉ vs → (δ'[i]? = some (Sl.d x) ↔ δ[i]? = some (Sl.d x))
  un : unAll δ' vs = true
  dct : ∀ (i : Nat) s', i ∉ vs → noMk s' = false → δ'[i]? = some s' → ∃ s, δ[i]? = some s ∧ s.like s'
def wGo (b : WB) (t : WT) (el : WE) (vs : List Nat) (k : List PyData → Dl → Prop) : List PyData → List PyData → Dl → Prop
  | [], acc, δ => k acc δ
  | x :: r, acc, δ => b x δ fun δ1 => t δ1 fun c δ2 => if c = true then el δ2 fun y δ3 => noB y = true ∧ wGo b t el vs k r (acc ++ [y.as]) (wipeD δ3 vs) else wGo b t el vs k r acc (wipeD δ2 vs)
def wLc (wi : WI) (b : WB) (t : WT) (el : WE) (vs : List Nat) : WE := fun δ P => wi δ fun ds δ1 => (ds.length ≤ 100000 ∧ unAll δ1 vs = true) ∧ wGo b t el vs (fun acc δ' => P (.l acc) δ') ds [] δ1
theorem dct_blk {vs : List Nat} {δ : Dl} : ∀ (i : Nat) s', i ∉ vs → noMk s' = false → δ[i]? = some s' → ∃ s, δ[i]? = some s ∧ s.like s' := fun _ s _ _ e => ⟨s, e, s.like_refl⟩
theorem like_mk {x y : Sl} (l : x.like y) (n : noMk y = false) : noMk x = false := by
  by_cases w : ∃ o, y = Sl.s o
  · obtain ⟨o, rfl⟩ := w
    obtain ⟨z, rfl, _⟩ := Sl.like_s l
    rfl
  · rw [Sl.like_e l fun o z => w ⟨o, z⟩]; exact n
theorem un_no {δ : Dl} {vs : List Nat} (h : unAll δ vs = true) {i : Nat} {s : Sl} (e : δ[i]? = some s) (n : s ≠ .un) : i ∉ vs := fun q => by
  have := List.all_eq_true.mp h i q
  rw [e] at this
  cases s <;> first | exact n rfl | cases this
theorem Blk.ownS {O : Addr → Prop} {D : Addr} {vs : List Nat} {δ δ' : Dl} {σ : L2.St} {H H' : Hp} (B : Blk O D vs δ δ' σ H H') {a : Addr} (h : OwnS δ' a) : OwnS δ a := by
  obtain ⟨i, o, e1, e2⟩ := h
  obtain ⟨x, q, l⟩ := B.dct i _ (un_no B.un e1 (by intro z; cases z)) rfl e1
  obtain ⟨z, rfl, w⟩ := Sl.like_s l
  exact ⟨i, z, q, by rw [← w]; exact e2⟩
theorem Blk.ownL {O : Addr → Prop} {D : Addr} {vs : List Nat} {δ δ' : Dl} {σ : L2.St} {H H' : Hp} (B : Blk O D vs δ δ' σ H H') {a : Addr} (h : OwnL δ' σ a) : OwnL δ σ a := by
  obtain ⟨i, xs, e1, e2⟩ := h
  obtain ⟨ys, e⟩ := (B.own i (un_no B.un e1 (by intro z; cases z))).mp ⟨xs, e1⟩
  exact ⟨i, ys, e, e2⟩
theorem Blk.ownI {O : Addr → Prop} {D : Addr} {vs : List Nat} {δ δ' : Dl} {σ : L2.St} {H H' : Hp} (B : Blk O D vs δ δ' σ H H') {a : Addr} (h : Own δ' σ a) : Own δ σ a := h.imp B.ownL B.ownS
theorem Bd.ownI {js : List Nat} {δ δ1 : Dl} {σ σ2 : L2.St} (bd : Bd js δ δ1 σ σ2) {a : Addr} (h : Own δ1 σ2 a) : Own δ σ a := by
  rcases h with ⟨j, zs, e1, e2⟩ | ⟨j, o, e1, e2⟩
  · have q : j ∉ js := fun z => bd.no j zs z e1
    rw [bd.eδ j q] at e1
    rw [bd.eσ j q] at e2
    exact .inl ⟨j, zs, e1, e2⟩
  · have q : j ∉ js := fun z => bd.ns j o z e1
    rw [bd.eδ j q] at e1
    exact .inr ⟨j, o, e1, e2⟩
theorem wipe_own {δ : Dl} {σ : L2.St} {vs : List Nat} {a : Addr} (h : Own δ (wipe σ vs) a) : Own δ σ a := h.imp (fun ⟨i, xs, e1, e2⟩ => ⟨i, xs, e1, (wipe_some e2).1⟩) id
theorem rep_upd {K : PySem.W.Frag} {O : Addr → Prop} {δ : Dl} {σ : L2.St} {H : Hp} {D : Addr} {o : HO} (R : Rep K O δ σ H) (hO : O D) (hn : ¬ Own δ σ D) (hd : ∀ us, H D ≠ some (.dT us)) : Rep K O δ σ (upd H D o) := by
  refine ⟨R.len, fun i x e => ?_, fun i xs e => ?_, R.inj, fun a z => ?_, R.ex.mv (fun _ z => z) (by rw [hid_upd hO]; exact Same.refl _) fun a _ ea => upd_ne fun q => by
    subst q
    exact ea.elim (fun ⟨us, e⟩ => hd us e) fun z => hn (.inr z)⟩
  · rw [hid_upd hO]; exact R.dat i x e
  · obtain ⟨a, vs, e1, z, e2, d⟩ := R.lst i xs e
    refine ⟨a, vs, e1, z, ?_, by rw [hid_upd hO]; exact d⟩
    rw [upd_ne fun q => hn (.inl ⟨i, xs, e, by rw [← q]; exact e1⟩)]
    exact e2
  · by_cases q : a = D
    · exact ⟨o, by rw [q, upd_same]⟩
    · rw [upd_ne q]; exact R.occ a z
def At (K : PySem.W.Frag) (O : Addr → Prop) (D : Addr) (vs : List Nat) (δ0 : Dl) (σ0 : L2.St) (H0 : Hp) (b : WB) (t : WT) (el : WE) (k : List PyData → Dl → Prop) (ds : List PyData) (m : Nat) (i : Nat) (H : Hp) : Prop :=
  ∃ δ acc accD, Rep K O δ σ0 H ∧ Blk O D vs δ0 δ σ0 H0 H ∧ H D = some (.lst acc) ∧ DpAll K (hid H O) acc accD ∧ acc.length ≤ m + i ∧ wGo b t el vs k (ds.drop i) accD δ
theorem at_turn {K : PySem.W.Frag} {O : Addr → Prop} {D : Addr} {vs js : List Nat} {δ0 : Dl} {σ0 : L2.St} {H0 H H2 : Hp} {b : WB} {t : WT} {el : WE} {k : List PyData → Dl → Prop} {ds : List PyData} {m i : Nat} {x : V} {d : PyData}
    (hjs : ∀ j ∈ js, j ∈ vs) (hO : O D) (hD : ¬ Own δ0 σ0 D) (hσ : wipe σ0 vs = σ0) (hun : unAll δ0 vs = true) (hl0 : δ0.length = σ0.length) (hm : m + ds.length < sizeLine) (hd : ds[i]? = some d) (hA : At K O D vs δ0 σ0 H0 b t el k ds m i H) (hy : Yld K (hid H0 O) H x H2 d) :
    liftG K js b x σ0 H2 fun σ2 H3 => wipe σ2 vs = σ0 ∧ liftT K t σ2 H3 fun c H4 => if c = true then lift K el σ2 H4 fun y H5 => ∃ acc, H5 D = some (.lst acc) ∧ acc.length < sizeLine ∧ At K O D vs δ0 σ0 H0 b t el k ds m (i + 1) (upd H5 D (.lst (acc ++ [y])))
      else At K O D vs δ0 σ0 H0 b t el k ds m (i + 1) H4 := by
  obtain ⟨δ, acc, accD, R, B, eD, dA, lA, w⟩ := hA
  have hi : i < ds.length := (List.getElem?_eq_some_iff.mp hd).1
  have hdrop : ds.drop i = d :: ds.drop (i + 1) := by
    rw [List.drop_eq_getElem_cons hi]
    congr 1
    exact Option.some.inj ((List.getElem?_eq_getElem hi).symm.trans hd)
  rw [hdrop] at w
  have nD : ¬ Own δ σ0 D := fun z => hD (B.ownI z)
  -- the item
  have item : Same (hid H O) (hid H2 O) ∧ (∀ a, O a → H2 a = H a) ∧ Rep K O δ σ0 H2 ∧ Dp K (hid H2 O) x d := by
    rcases hy with ⟨rfl, dx⟩ | ⟨T, x1, x2, d1, d2, rfl, nT, rfl, rfl, h1, h2⟩
    · exact ⟨Same.refl _, fun _ _ => rfl, R, Dp.up dx B.same⟩
    · refine ⟨hid_new nT, fun a z => ?_, R.laid nT, .tup (xs := [x1, x2]) ?_ ?_⟩
      · obtain ⟨u, e⟩ := R.occ a z
        rw [upd_ne (ne_of_none e nT)]
      · rw [hid_no (R.fresh nT)]; exact upd_same
      · exact .cons (Dp.up (Dp.up h1 B.same) (hid_new nT)) (.cons (Dp.up (Dp.up h2 B.same) (hid_new nT)) .nil)
  obtain ⟨sm, fr, R2, dx⟩ := item
  refine ⟨O, δ, d, _, R2, dx, w, fun δ1 σ2 w1 bd R3 => ⟨?_, O, δ1, _, R3, w1, fun c δ2 H4 w2 s2 R4 => ?_⟩⟩
  · exact (wipe_eq bd.lσ fun j q => bd.eσ j fun z => q (hjs j z)).trans hσ
  have hw2 : wipe σ2 vs = σ0 := (wipe_eq bd.lσ fun j q => bd.eσ j fun z => q (hjs j z)).trans hσ
  have own1 : ∀ a, Own δ1 σ2 a → Own δ0 σ0 a := fun a z => B.ownI (bd.ownI z)
  -- from where the test or the element ends
  have fin : ∀ δ3 H5, Stp O δ1 δ3 σ2 H2 H5 → Rep K O δ3 σ2 H5 → Rep K O (wipeD δ3 vs) σ0 H5 ∧ Blk O D vs δ0 (wipeD δ3 vs) σ0 H0 H5 ∧ H5 D = some (.lst acc) ∧ DpAll K (hid H5 O) acc accD := fun δ3 H5 s R5 => by
    have R6 := rep_wipe vs R5
    rw [hw2] at R6
    refine ⟨R6, ⟨(B.same.trans sm).trans s.same, fun a oa na no => ?_, fun j q => ?_, fun j y q => ?_, wipeD_un fun v hv => ?_, fun j kvs q n z => ?_⟩, ?_, DpAll.up dA (sm.trans s.same)⟩
    · rw [s.frame a oa fun z => no (own1 a z), fr a oa, B.frame a oa na no]
    · rw [(wipeD_get δ3 j vs).1 q]
      refine (s.own j).trans ?_
      rw [bd.eδ j fun z => q (hjs j z)]
      exact B.own j q
    · rw [(wipeD_get δ3 j vs).1 q]
      refine (s.dat j y).trans ?_
      rw [bd.eδ j fun z => q (hjs j z)]
      exact B.dat j y q
    · have h1 := List.all_eq_true.mp hun v hv
      have h2 : v < δ0.length := by
        cases e : δ0[v]? with
        | none => rw [e] at h1; cases h1
        | some _ => exact (List.getElem?_eq_some_iff.mp e).1
      rw [R5.len, bd.lσ, ← hl0]
      exact h2
    · rw [(wipeD_get δ3 j vs).1 q] at z
      obtain ⟨x, z, l⟩ := s.dct j kvs n z
      rw [bd.eδ j fun z => q (hjs j z)] at z
      obtain ⟨y, z, l2⟩ := B.dct j x q (like_mk l n) z
      exact ⟨y, z, Sl.like_trans l2 l⟩
    · rw [s.frame D hO fun z => hD (own1 D z), fr D hO]; exact eD
  cases c with
  | false =>
    obtain ⟨R6, B6, e6, d6⟩ := fin δ2 H4 s2 R4
    exact ⟨_, acc, accD, R6, B6, e6, d6, by omega, w2⟩
  | true =>
    refine ⟨O, δ2, _, R4, w2, fun y δ3 vy H5 w3 s3 R5 k3 => ?_⟩
    obtain ⟨ny, w3⟩ := w3
    obtain ⟨R6, B6, e6, d6⟩ := fin δ3 H5 (s2.trans s3) R5
    have n6 : ¬ Own (wipeD δ3 vs) σ0 D := fun z => hD (B6.ownI z)
    have dy : Dp K (hid H5 O) vy y.as := by
      cases y with
      | d x => exact k3
      | b i xs => cases ny
      | l xs =>
        obtain ⟨p, us, rfl, n, e, ha, hr⟩ := k3
        refine .lst (.inl (.inl ?_)) (DpAll.up ha (hid_sub fun a z => .inl z))
        rw [hid_no (R4.fresh n)]; exact e
    refine ⟨acc, e6, by omega, _, acc ++ [vy], accD ++ [y.as], rep_upd R6 hO n6 (by rw [e6]; exact fun us z => nomatch z), ⟨?_, fun a oa na no => ?_, B6.own, B6.dat, B6.un, B6.dct⟩, upd_same, ?_, by rw [List.length_append]; simp; omega, w3⟩
    · rw [hid_upd hO]; exact B6.same
    · rw [upd_ne na]; exact B6.frame a oa na no
    · rw [hid_upd hO]; exact da_app d6 (.cons dy .nil)
section
variable {X : Cx} {tg tg1 iter iter1 e elt : Expr} {we el : WE} {wi wi1 : WI} {pos p : Pos} {ifs ifs1 : List Expr} {scope : Scope} {own : List (Str × Nat)} {js js1 vs1 : List Nat} {b b1 : WB} {t t1 : WT}
def DTs (X : Cx) (es : List Expr) (w : WT) : Prop := PTs X es (liftT X.K w)
def wYes : WT := fun δ P => P true δ
theorem dts_nil : DTs X [] wYes := ⟨fun pins s σ H Q I ⟨O, δ, P, R, w, f⟩ => pts_nil.run pins s σ H Q I (f _ _ _ w Stp.refl R)⟩
theorem dts_one {c : Expr} (h : DT X c t) : DTs X [c] t := pts_one h
theorem lc_start {K : PySem.W.Frag} {O : Addr → Prop} {δ : Dl} {σ : L2.St} {H1 : Hp} {D : Addr} {vs : List Nat} (R : Rep K O δ σ H1) (hD : H1 D = none) (hun : unAll δ vs = true) :
    Rep K (fun a => O a ∨ a = D) δ (wipe σ vs) (upd H1 D (.lst [])) ∧ ¬ Own δ (wipe σ vs) D := by
  have R1 := rep_wipe vs R
  rw [unAll_wipe hun] at R1
  have nO : ¬ O D := R.fresh hD
  have up : Same (hid H1 O) (hid (upd H1 D (.lst [])) fun a => O a ∨ a = D) := fun b x e => by
    obtain ⟨n, e⟩ := hid_some e
    have ne : b ≠ D := ne_of_none e hD
    rw [hid_no (fun z => z.elim n ne), upd_ne ne]; exact e
  refine ⟨⟨R1.len, fun i x e => ?_, fun i xs e => ?_, R1.inj, fun a z => ?_, R1.ex.mv (fun _ z => .inl z) up fun a _ e => by obtain ⟨u, e⟩ := R1.ex.kept e; exact upd_ne (ne_of_none e hD)⟩, ?_⟩
  · obtain ⟨v, e1, d⟩ := R1.dat i x e
    exact ⟨v, e1, Dp.up d up⟩
  · obtain ⟨a, us, e1, z, e2, d⟩ := R1.lst i xs e
    exact ⟨a, us, e1, .inl z, by rw [upd_ne (ne_of_none e2 hD)]; exact e2, DpAll.up d up⟩
  · by_cases q : a = D
    · exact ⟨_, by rw [q, upd_same]⟩
    · obtain ⟨u, e⟩ := R.occ a (z.resolve_right q)
      exact ⟨u, by rw [upd_ne q]; exact e⟩
  · exact R1.notOwn hD
theorem lc_up {O : Addr → Prop} {H1 : Hp} {D : Addr} (hD : H1 D = none) : Same (hid H1 O) (hid (upd H1 D (.lst [])) fun a => O a ∨ a = D) := fun b x e => by
  obtain ⟨n, e⟩ := hid_some e
  have ne : b ≠ D := ne_of_none e hD
  rw [hid_no (fun z => z.elim n ne), upd_ne ne]; exact e
theorem lc_end {K : PySem.W.Frag} {O : Addr → Prop} {δ0 δ1 δ2 : Dl} {σ : L2.St} {H H1 H2 : Hp} {D : Addr} {vs : List Nat} {acc : List V} {accD : List PyData} (R0 : Rep K O δ0 σ H) (s1 : Stp O δ0 δ1 σ H H1) (R1 : Rep K O δ1 σ H1) (hD : H1 D = none) (hun : unAll δ1 vs = true)
    (R2 : Rep K (fun a => O a ∨ a = D) δ2 (wipe σ vs) H2) (B : Blk (fun a => O a ∨ a = D) D vs δ1 δ2 (wipe σ vs) (upd H1 D (.lst [])) H2) (eD : H2 D = some (.lst acc)) (dA : DpAll K (hid H2 fun a => O a ∨ a = D) acc accD) :
    Stp O δ0 δ2 σ H H2 ∧ Rep K O δ2 σ H2 ∧ RvOk K O σ δ2 H H2 (.ref D) (.l accD) := by
  have nO : ¬ O D := R1.fresh hD
  have nOwn : ¬ Own δ2 (wipe σ vs) D := fun z => (lc_start (vs := vs) R1 hD hun).2 (B.ownI z)
  have sub : Same (hid H2 fun a => O a ∨ a = D) (hid H2 O) := hid_sub fun a z => .inl z
  have iff_ : ∀ (i : Nat), i ∈ vs → (∀ xs, δ1[i]? ≠ some (Sl.o xs)) ∧ (∀ xs, δ2[i]? ≠ some (Sl.o xs)) ∧ (∀ x, δ1[i]? ≠ some (Sl.d x)) ∧ (∀ x, δ2[i]? ≠ some (Sl.d x)) := fun i hi => by
    have h1 := List.all_eq_true.mp hun i hi
    have h2 := List.all_eq_true.mp B.un i hi
    refine ⟨fun xs z => ?_, fun xs z => ?_, fun xs z => ?_, fun xs z => ?_⟩
    · rw [z] at h1; cases h1
    · rw [z] at h2; cases h2
    · rw [z] at h1; cases h1
    · rw [z] at h2; cases h2
  have st : Stp O δ1 δ2 σ H1 H2 := by
    refine ⟨((lc_up hD).trans B.same).trans sub, fun a oa no => ?_, fun i => ?_, fun i x => ?_, fun i kvs n z => ?_⟩
    · have ne : a ≠ D := fun z => nO (z ▸ oa)
      rw [B.frame a (.inl oa) ne ?_, upd_ne ne]
      exact fun z => no (wipe_own z)
    · by_cases q : i ∈ vs
      · obtain ⟨h1, h2, _⟩ := iff_ i q
        exact ⟨fun ⟨xs, z⟩ => absurd z (h2 xs), fun ⟨xs, z⟩ => absurd z (h1 xs)⟩
      · exact B.own i q
    · by_cases q : i ∈ vs
      · obtain ⟨_, _, h1, h2⟩ := iff_ i q
        exact ⟨fun z => absurd z (h2 x), fun z => absurd z (h1 x)⟩
      · exact B.dat i x q
    · exact B.dct i kvs (un_no B.un z (by intro w; rw [w] at n; cases n)) n z
  have inj : ∀ (i j : Nat) (xs ys : List PyData) (a : Addr), δ2[i]? = some (Sl.o xs) → δ2[j]? = some (Sl.o ys) → σ[i]? = some (some (V.ref a)) → σ[j]? = some (some (V.ref a)) → i = j := fun i j xs ys a e1 e2 e3 e4 => by
    have c : ∀ (i : Nat) (xs : List PyData), δ2[i]? = some (Sl.o xs) → ∀ a, σ[i]? = some (some (V.ref a)) → (wipe σ vs)[i]? = some (some (V.ref a)) := fun i xs e a q => by
      rw [wipe_get σ i vs fun z => (iff_ i z).2.1 xs e]; exact q
    exact R2.inj i j xs ys a e1 e2 (c i xs e1 a e3) (c j ys e2 a e4)
  have mk2 : Mk K (fun a => O a ∨ a = D) δ2 σ H2 := R2.ex.at (fun i s n e => ⟨e, (wipe_get σ i vs (un_no B.un e (by intro w; rw [w] at n; cases n))).symm⟩) fun i xs a e e2 =>
    R2.noS e (by rw [wipe_get σ i vs (un_no B.un e (by intro w; cases w))]; exact e2)
  have RD : Rep K (fun a => O a ∨ a = D) δ2 σ H2 := by
    refine ⟨by rw [R2.len, wipe_length], fun i x e => ?_, fun i xs e => ?_, inj, R2.occ, mk2⟩
    · obtain ⟨v, e1, d⟩ := R2.dat i x e
      exact ⟨v, (wipe_some e1).1, d⟩
    · obtain ⟨a, us, e1, z, e2, d⟩ := R2.lst i xs e
      exact ⟨a, us, (wipe_some e1).1, z, e2, d⟩
  refine ⟨s1.trans st, ⟨by rw [R2.len, wipe_length], fun i x e => ?_, fun i xs e => ?_, inj, fun a z => R2.occ a (.inl z), ⟨fun i kvs e => ?_, mk2.i, fun i ks e => ?_, fun i o e => ?_, mk2.ss, mk2.sj⟩⟩, D, acc, rfl, fresh_back R0 R1 s1 hD, eD, dA, RD⟩
  · obtain ⟨v, e1, d⟩ := R2.dat i x e
    exact ⟨v, (wipe_some e1).1, Dp.up d sub⟩
  · obtain ⟨a, us, e1, z, e2, d⟩ := R2.lst i xs e
    refine ⟨a, us, (wipe_some e1).1, z.resolve_right fun q => nOwn (.inl ⟨i, xs, e, by rw [← q]; exact e1⟩), e2, DpAll.up d sub⟩
  · obtain ⟨a, us, e1, z, e2, d⟩ := mk2.m i kvs e
    have z : O a := z.resolve_right (fun q => by rw [q, eD] at e2; cases e2)
    exact ⟨a, us, e1, z, e2, KvOk.up sub d⟩
  · obtain ⟨b, e1, e2⟩ := mk2.k i ks e
    exact ⟨b, e1, sub _ _ e2⟩
  · obtain ⟨e1, e2⟩ := mk2.s i o e
    exact ⟨e1, e2.less sub fun a m => ((e2.o m).1).resolve_right fun q => nOwn (.inr ⟨i, o, e, by rw [← q]; exact m⟩)⟩
theorem sz_ok {n : Nat} (h : n ≤ 100000) : 0 + n < sizeLine := by
  rw [Nat.zero_add]
  exact Nat.lt_of_le_of_lt h (by rw [sizeLine_eq]; decide)
theorem lift_lc {K : PySem.W.Frag} {vs : List Nat} (hjs : ∀ j ∈ js, j ∈ vs) {σ : L2.St} {H : Hp} {Q : VK} (q : lift K (wLc wi b t el vs) σ H Q) : tLc (liftI K wi) (liftG K js b) (liftT K t) (lift K el) vs σ H Q := by
  obtain ⟨O, δ, P, R0, w, f⟩ := q
  refine ⟨O, δ, _, R0, w, fun ds δ1 H1 J w1 s1 R1 wk D hD => ?_⟩
  obtain ⟨⟨hz, hun⟩, w1⟩ := w1
  obtain ⟨GG, Y, wk, hG, hY⟩ := wk
  obtain ⟨R2, nD⟩ := lc_start (vs := vs) R1 hD hun
  have hw : wipe (wipe σ vs) vs = wipe σ vs := wipe_wipe
  refine lc_it wk (At K (fun a => O a ∨ a = D) D vs δ1 (wipe σ vs) (upd H1 D (.lst [])) b t el (fun acc δ' => P (.l acc) δ') ds 0) ?_ ?_ ?_ ?_
  · exact ⟨δ1, [], [], R2, ⟨Same.refl _, fun _ _ _ _ => rfl, fun _ _ => Iff.rfl, fun _ _ _ => Iff.rfl, hun, dct_blk⟩, upd_same, .nil, Nat.le_refl _, w1⟩
  · rintro i H2 _ ⟨δ2, acc, accD, R3, B, _⟩
    exact hG H2 (((lc_up hD).trans B.same).trans hid_le)
  · intro i x H2 H3 hi2 hA hy
    have hA' := hA
    obtain ⟨δ2, acc, accD, R3, B, _⟩ := hA'
    have e : ds[i]? = some ds[i] := List.getElem?_eq_getElem hi2
    have yl := hY i H2 x H3 _ e (((lc_up hD).trans B.same).trans hid_le) hy
    have yl2 : Yld K (hid (upd H1 D (.lst [])) fun a => O a ∨ a = D) H2 x H3 ds[i] := by
      rcases yl with ⟨e1, d⟩ | ⟨T, x1, x2, d1, d2, e1, e2, e3, e4, h1, h2⟩
      · exact .inl ⟨e1, Dp.up d (lc_up hD)⟩
      · exact .inr ⟨T, x1, x2, d1, d2, e1, e2, e3, e4, Dp.up h1 (lc_up hD), Dp.up h2 (lc_up hD)⟩
    exact at_turn (js := js) hjs (.inr rfl) nD hw hun R2.len (sz_ok hz) e hA yl2
  · rintro H2 ⟨δ2, acc, accD, R3, B, eD, dA, _, w2⟩
    rw [List.drop_length] at w2
    obtain ⟨s3, R4, k4⟩ := lc_end R0 s1 R1 hD hun R3 B eD dA
    exact f _ _ _ _ w2 s3 R4 k4
theorem de_lc (hc : X.calm = true) (hN : X.N.Nodup) (hi : DI X tg iter wi) (ok : BlkOk X.N X.env.scope scope own)
    (hg : ∀ (s : Shared) (H : Hp) (C : Addr) (cl : List (Str × Addr)) (fp : List Addr), DG (X.blk s H scope (compEnvC scope cl C X.env) fp) tg js b) (ht : ∀ (s : Shared) (H : Hp) (C : Addr) (cl : List (Str × Addr)) (fp : List Addr), DTs (X.blk s H scope (compEnvC scope cl C X.env) fp) ifs t)
    (he : ∀ (s : Shared) (H : Hp) (C : Addr) (cl : List (Str × Addr)) (fp : List Addr), DE (X.blk s H scope (compEnvC scope cl C X.env) fp) elt el) (hjs : ∀ j ∈ js, j ∈ own.map (·.2) := by decide) (hs : ∀ x, foldedSetIterable iter X.env x = pure x := by intro _; rfl) :
    DE X (.ListComp elt [⟨tg, iter, ifs, 0⟩] scope pos) (wLc wi b t el (own.map (·.2))) := by
  exact pe_weak (pe_lc (wi := liftI X.K wi) (g := liftG X.K js b) (tt := liftT X.K t) (te := lift X.K el) hc hN hi ok hg ht he hs) fun σ H Q q => lift_lc hjs q
end
end Dw
namespace Dw
open PySem PySem.Spec PyProof.Rows L2
def wGo2 (b : WB) (t : WT) (wi1 : WI) (b1 : WB) (t1 : WT) (el : WE) (vs vs1 : List Nat) (k : List PyData → Dl → Prop) : List PyData → List PyData → Dl → Prop
  | [], acc, δ => k acc δ
  | x :: r, acc, δ => b x δ fun δ1 => t δ1 fun c δ2 => if c = true then wi1 δ2 fun ds1 δ3 => (ds1.length ≤ 1000 ∧ unAll δ3 vs1 = true) ∧ wGo b1 t1 el vs1 (fun acc' δ4 => wGo2 b t wi1 b1 t1 el vs vs1 k r acc' (wipeD δ4 vs)) ds1 acc δ3
    else wGo2 b t wi1 b1 t1 el vs vs1 k r acc (wipeD δ2 vs)
def wLc2 (wi : WI) (b : WB) (t : WT) (wi1 : WI) (b1 : WB) (t1 : WT) (el : WE) (vs vs1 : List Nat) : WE := fun δ P => wi δ fun ds δ1 => (ds.length ≤ 10000 ∧ unAll δ1 vs = true) ∧ wGo2 b t wi1 b1 t1 el vs vs1 (fun acc δ' => P (.l acc) δ') ds [] δ1
section
variable {X : Cx} {tg tg1 iter iter1 e elt : Expr} {we el : WE} {wi wi1 : WI} {pos p : Pos} {ifs ifs1 : List Expr} {scope : Scope} {own : List (Str × Nat)} {js js1 vs1 : List Nat} {b b1 : WB} {t t1 : WT}
end
end Dw
namespace Dw
open PySem PySem.Spec PyProof.Rows L2
def OwnM (δ : Dl) (σ : L2.St) (a : Addr) : Prop := ∃ (i : Nat) (kvs : List (List Int × PyData)), δ[i]? = some (Sl.m kvs) ∧ σ[i]? = some (some (V.ref a))
def Own1 (δ : Dl) (σ : L2.St) (a : Addr) : Prop := ∃ (i : Nat) (xs : List PyData), i ≠ 0 ∧ δ[i]? = some (Sl.o xs) ∧ σ[i]? = some (some (V.ref a))
structure Tr (O O' : Addr → Prop) (δ δ' : Dl) (σ σ' : L2.St) (H H' : Hp) : Prop where
  sub : ∀ a, O a → O' a ∨ (Own1 δ σ a ∧ ∃ o, H' a = some o)
  same : Same (hid H O) (hid H' O')
  new : ∀ a, O' a → O a ∨ H a = none
  frame : ∀ a, O a → ¬ Own δ σ a → ¬ OwnM δ σ a → H' a = H a
  keep : ∀ xs a, δ[0]? = some (Sl.o xs) → σ[0]? = some (some (V.ref a)) → (∃ ys, δ'[0]? = some (Sl.o ys)) ∧ σ'[0]? = some (some (V.ref a))
  own : ∀ a, OwnL δ' σ' a → OwnL δ σ a ∨ H a = none
  ownM : ∀ a, OwnM δ' σ' a → OwnM δ σ a ∨ H a = none
  ownS : ∀ a, OwnS δ' a → OwnS δ a ∨ H a = none
theorem Tr.ownI {O O' : Addr → Prop} {δ δ' : Dl} {σ σ' : L2.St} {H H' : Hp} (t : Tr O O' δ δ' σ σ' H H') {a : Addr} (h : Own δ' σ' a) : Own δ σ a ∨ H a = none :=
  h.elim (fun z => (t.own a z).imp .inl id) fun z => (t.ownS a z).imp .inr id
section
variable {K : PySem.W.Frag} {O O1 O2 : Addr → Prop} {δ δ1 δ2 : Dl} {σ σ1 σ2 : L2.St} {H H1 H2 : Hp} {v : V} {r : Rv}
theorem Tr.back (R : Rep K O δ σ H) (R1 : Rep K O1 δ1 σ1 H1) (a : Tr O O1 δ δ1 σ σ1 H H1) {p : Addr} (h : H1 p = none) : H p = none := by
  cases q : H p with
  | none => rfl
  | some o =>
    by_cases z : O p
    · rcases a.sub p z with z | ⟨_, u, e⟩
      · obtain ⟨u, e⟩ := R1.occ p z
        rw [h] at e; cases e
      · rw [h] at e; cases e
    · have := (hid_some (a.same p o (by rw [hid_no z]; exact q))).2
      rw [h] at this; cases this
theorem Tr.trans (R : Rep K O δ σ H) (R1 : Rep K O1 δ1 σ1 H1) (a : Tr O O1 δ δ1 σ σ1 H H1) (b : Tr O1 O2 δ1 δ2 σ1 σ2 H1 H2) : Tr O O2 δ δ2 σ σ2 H H2 := by
  refine ⟨fun x z => ?_, a.same.trans b.same, fun x z => ?_, fun x z n nm => ?_, fun xs x e1 e2 => ?_, fun x z => ?_, fun x z => ?_, fun x z => ?_⟩
  · rcases a.sub x z with w | ⟨w, o, eo⟩
    · rcases b.sub x w with q | ⟨⟨i, xs, ni, e1, e2⟩, q⟩
      · exact .inl q
      · refine .inr ⟨?_, q⟩
        rcases a.own x ⟨i, xs, e1, e2⟩ with ⟨j, ys, f1, f2⟩ | y
        · refine ⟨j, ys, fun hj => ?_, f1, f2⟩
          subst hj
          obtain ⟨⟨zs, k1⟩, k2⟩ := a.keep ys x f1 f2
          exact ni (R1.inj i 0 xs zs x e1 k1 e2 k2)
        · obtain ⟨u, e⟩ := R.occ x z
          rw [y] at e; cases e
    · by_cases y : O1 x
      · rcases b.sub x y with q | ⟨_, q⟩
        · exact .inl q
        · exact .inr ⟨w, q⟩
      · exact .inr ⟨w, o, (hid_some (b.same x o (by rw [hid_no y]; exact eo))).2⟩
  · rcases b.new x z with q | q
    · exact a.new x q
    · exact .inr (a.back R R1 q)
  · have z1 : O1 x := (a.sub x z).elim id fun ⟨⟨i, xs, _, e1, e2⟩, _⟩ => absurd (.inl ⟨i, xs, e1, e2⟩) n
    refine (b.frame x z1 (fun q => ?_) fun q => ?_).trans (a.frame x z n nm)
    · rcases a.ownI q with w | w
      · exact n w
      · obtain ⟨u, e⟩ := R.occ x z
        rw [w] at e; cases e
    · rcases a.ownM x q with w | w
      · exact nm w
      · obtain ⟨u, e⟩ := R.occ x z
        rw [w] at e; cases e
  · obtain ⟨⟨ys, q1⟩, q2⟩ := a.keep xs x e1 e2
    exact b.keep ys x q1 q2
  · rcases b.own x z with q | q
    · exact a.own x q
    · exact .inr (a.back R R1 q)
  · rcases b.ownM x z with q | q
    · exact a.ownM x q
    · exact .inr (a.back R R1 q)
  · rcases b.ownS x z with q | q
    · exact a.ownS x q
    · exact .inr (a.back R R1 q)
theorem Tr.refl : Tr O O δ δ σ σ H H := ⟨fun _ z => .inl z, Same.refl _, fun _ z => .inl z, fun _ _ _ _ => rfl, fun xs a e1 e2 => ⟨⟨xs, e1⟩, e2⟩, fun _ z => .inl z, fun _ z => .inl z, fun _ z => .inl z⟩
theorem Stp.tr (s : Stp O δ δ1 σ H H1) : Tr O O δ δ1 σ σ H H1 := ⟨fun _ z => .inl z, s.same, fun _ z => .inl z, fun a z n _ => s.frame a z n, fun xs a e1 e2 => ⟨(s.own 0).mpr ⟨xs, e1⟩, e2⟩, fun _ z => .inl (s.ownL z), fun _ ⟨i, kvs, e1, e2⟩ => .inl ⟨i, kvs, s.dm i kvs e1, e2⟩, fun _ z => .inl (s.ownS z)⟩
theorem Bd.tr {js : List Nat} (b : Bd js δ δ1 σ σ1) (h0 : 0 ∉ js) : Tr O O δ δ1 σ σ1 H H := by
  refine ⟨fun _ z => .inl z, Same.refl _, fun _ z => .inl z, fun _ _ _ _ => rfl, fun xs a e1 e2 => ?_, fun a ⟨i, xs, e1, e2⟩ => ?_, fun a ⟨i, xs, e1, e2⟩ => ?_, fun a ⟨i, o, e1, e2⟩ => ?_⟩
  · rw [b.eδ 0 h0, b.eσ 0 h0]; exact ⟨⟨xs, e1⟩, e2⟩
  · have q : i ∉ js := fun z => b.no i xs z e1
    rw [b.eδ i q] at e1
    rw [b.eσ i q] at e2
    exact .inl ⟨i, xs, e1, e2⟩
  · have q : i ∉ js := fun z => b.nm i xs z e1
    rw [b.eδ i q] at e1
    rw [b.eσ i q] at e2
    exact .inl ⟨i, xs, e1, e2⟩
  · have q : i ∉ js := fun z => b.ns i o z e1
    rw [b.eδ i q] at e1
    exact .inl ⟨i, o, e1, e2⟩
end
structure DEnds where
  nx : Dl → Prop
  rt : Rv → Dl → Prop
  bk : Dl → Prop
  ct : Dl → Prop
abbrev WS := DEnds → Dl → Prop
structure EOk (K : PySem.W.Frag) (O : Addr → Prop) (δ : Dl) (σ : L2.St) (H : Hp) (P : DEnds) (D : Ends) : Prop where
  nx : ∀ O' δ' σ' H', P.nx δ' → Tr O O' δ δ' σ σ' H H' → Rep K O' δ' σ' H' → D.nx σ' H'
  rt : ∀ O' r δ' σ' v H', P.rt r δ' → Tr O O' δ δ' σ σ' H H' → Rep K O' δ' σ' H' → RvOk K O' σ' δ' H H' v r → D.rt v H'
  bk : ∀ O' δ' σ' H', P.bk δ' → Tr O O' δ δ' σ σ' H H' → Rep K O' δ' σ' H' → D.bk σ' H'
  ct : ∀ O' δ' σ' H', P.ct δ' → Tr O O' δ δ' σ σ' H H' → Rep K O' δ' σ' H' → D.ct σ' H'
section
variable {K : PySem.W.Frag} {O O1 O2 : Addr → Prop} {δ δ1 δ2 : Dl} {σ σ1 σ2 : L2.St} {H H1 H2 : Hp} {v : V} {r : Rv} {P : DEnds} {D : Ends}
theorem RvOk.backT (R : Rep K O δ σ H) (R1 : Rep K O1 δ1 σ1 H1) (a : Tr O O1 δ δ1 σ σ1 H H1) (h : RvOk K O2 σ2 δ2 H1 H2 v r) : RvOk K O2 σ2 δ2 H H2 v r := by
  cases r with
  | d x => exact h
  | b i xs => exact h
  | l xs =>
    obtain ⟨p, vs, e1, n, e, ha, hr⟩ := h
    exact ⟨p, vs, e1, a.back R R1 n, e, ha, hr⟩
theorem EOk.after (E : EOk K O δ σ H P D) (R : Rep K O δ σ H) (R1 : Rep K O1 δ1 σ1 H1) (a : Tr O O1 δ δ1 σ σ1 H H1) : EOk K O1 δ1 σ1 H1 P D :=
  ⟨fun O' δ' σ' H' p t R' => E.nx _ _ _ _ p (a.trans R R1 t) R', fun O' r δ' σ' v H' p t R' k => E.rt _ _ _ _ _ _ p (a.trans R R1 t) R' (RvOk.backT R R1 a k), fun O' δ' σ' H' p t R' => E.bk _ _ _ _ p (a.trans R R1 t) R', fun O' δ' σ' H' p t R' => E.ct _ _ _ _ p (a.trans R R1 t) R'⟩
end
def liftS (K : PySem.W.Frag) (w : WS) : TS := fun D σ H => ∃ O δ P, Rep K O δ σ H ∧ w P δ ∧ EOk K O δ σ H P D
def DS (X : Cx) (s : Stmt) (w : WS) : Prop := PS X s (liftS X.K w)
def DSs (X : Cx) (s : List Stmt) (w : WS) : Prop := PSs X s (liftS X.K w)
section
variable {X : Cx} {st : Stmt} {rest body orelse : List Stmt} {w w' wb : WS} {we wa wi' : WE} {wi : WI} {t : WT} {e tg iter c : Expr} {pos pos' : Pos} {b : WB} {js : List Nat} {i : Nat} {x : Str}
theorem ps_weak {s s' : TS} (h : PS X st s) (f : ∀ D σ H, s' D σ H → s D σ H) : PS X st s' := ⟨fun pins sh σ H D I q => h.run pins sh σ H D I (f D σ H q)⟩
theorem pss_weak {s s' : TS} (h : PSs X rest s) (f : ∀ D σ H, s' D σ H → s D σ H) : PSs X rest s' := ⟨fun pins sh σ H D I q => h.run pins sh σ H D I (f D σ H q)⟩
def wNext : WS := fun P δ => P.nx δ
def wThen (w w' : WS) : WS := fun P δ => w { P with nx := fun δ1 => w' P δ1 } δ
theorem ds_nil : DSs X [] wNext := pss_weak pss_nil fun D σ H ⟨O, δ, P, R, w, E⟩ => E.nx _ _ _ _ w Tr.refl R
theorem ds_cons (h : DS X st w) (h2 : DSs X rest w') : DSs X (st :: rest) (wThen w w') := by
  refine pss_weak (pss_cons h h2) fun D σ H ⟨O, δ, P, R, w, E⟩ => ?_
  exact ⟨O, δ, _, R, w, ⟨fun O' δ' σ' H' p t R' => ⟨O', δ', P, R', p, E.after R R' t⟩, E.rt, E.bk, E.ct⟩⟩
theorem ds_one (h : DS X st w) : DSs X [st] w := pss_one h
def wNever : WS := fun _ _ => False
def wIfS (t : WT) (w w' : WS) : WS := fun P δ => t δ fun c δ1 => if c = true then w P δ1 else w' P δ1
theorem ds_if (hc : DT X c t) (h : DSs X body w) (h2 : DSs X orelse w') : DS X (.If c body orelse pos) (wIfS t w w') := by
  refine ps_weak (ps_if hc h h2) fun D σ H ⟨O, δ, P, R, w, E⟩ => ?_
  refine ⟨O, δ, _, R, w, fun k δ1 H1 w1 s1 R1 => ?_⟩
  cases k with
  | true => exact ⟨O, δ1, P, R1, w1, E.after R R1 s1.tr⟩
  | false => exact ⟨O, δ1, P, R1, w1, E.after R R1 s1.tr⟩
def wRet (w : WE) : WS := fun P δ => w δ fun r δ1 => P.rt r δ1
theorem ds_ret (h : DE X e we) : DS X (.Return (some e) pos) (wRet we) := by
  refine ps_weak (ps_ret h) fun D σ H ⟨O, δ, P, R, w, E⟩ => ?_
  exact ⟨O, δ, _, R, w, fun r δ1 v H1 w1 s1 R1 k1 => E.rt _ _ _ _ _ _ w1 s1.tr R1 k1⟩
def wRetN : WS := fun P δ => P.rt (.d .none) δ
def wDrop (w : WE) : WS := fun P δ => w δ fun _ δ1 => P.nx δ1
theorem ds_expr (h : DE X e we) (hs : swapsWith e none pos.line X.env = pure false := by rfl) : DS X (.Expr e pos) (wDrop we) := by
  refine ps_weak (ps_expr h hs) fun D σ H ⟨O, δ, P, R, w, E⟩ => ?_
  exact ⟨O, δ, _, R, w, fun r δ1 v H1 w1 s1 R1 k1 => E.nx _ _ _ _ w1 s1.tr R1⟩
def putR (δ : Dl) (i : Nat) : Rv → Option Dl
  | .d x => some (δ.set i (.d x))
  | .l xs => some (δ.set i (.o xs))
  | .b _ _ => none
def wSet (i : Nat) (w : WE) : WS := fun P δ => w δ fun r δ1 => match putR δ1 i r with
  | some δ2 => P.nx δ2
  | none => False
theorem rep_setO {K : PySem.W.Frag} {O : Addr → Prop} {δ : Dl} {σ : L2.St} {H : Hp} {j : Nat} {p : Addr} {vs : List V} {xs : List PyData} (hp : ¬ Own δ σ p) (R : Rep K O δ σ H) (hO : O p) (e : H p = some (.lst vs)) (d : DpAll K (hid H O) vs xs) :
    Rep K O (δ.set j (.o xs)) (σ.set j (some (.ref p))) H := by
  have hl : δ.length = σ.length := R.len
  have c : ∀ (i : Nat) (ys : List PyData) (a : Addr), (δ.set j (Sl.o xs))[i]? = some (Sl.o ys) → (σ.set j (some (V.ref p)))[i]? = some (some (V.ref a)) → (i = j ∧ a = p) ∨ (i ≠ j ∧ δ[i]? = some (Sl.o ys) ∧ σ[i]? = some (some (V.ref a))) := fun i ys a e1 e2 => by
    rw [get_set] at e1 e2
    by_cases h : j = i
    · rw [if_pos h] at e2
      split at e2
      · cases e2; exact .inl ⟨h.symm, rfl⟩
      · cases e2
    · rw [if_neg h] at e1 e2
      exact .inr ⟨fun z => h z.symm, e1, e2⟩
  refine ⟨by rw [List.length_set, List.length_set]; exact hl, fun i y e => ?_, fun i ys q => ?_, fun i k ys zs a e1 e2 e3 e4 => ?_, R.occ, R.ex.put rfl fun _ a _ q => by cases q; exact fun z => hp (.inr z)⟩
  · rw [get_set] at e ⊢
    by_cases h : j = i
    · rw [if_pos h] at e
      split at e <;> cases e
    · rw [if_neg h] at e ⊢
      exact R.dat i y e
  · rw [get_set] at q ⊢
    by_cases h : j = i
    · rw [if_pos h] at q ⊢
      by_cases hj : j < δ.length
      · rw [if_pos hj] at q
        cases q
        exact ⟨p, vs, by rw [if_pos (by omega)], hO, e, d⟩
      · rw [if_neg hj] at q; cases q
    · rw [if_neg h] at q ⊢
      exact R.lst i ys q
  · rcases c i ys a e1 e3 with ⟨q1, q2⟩ | ⟨q1, q2, q3⟩ <;> rcases c k zs a e2 e4 with ⟨z1, z2⟩ | ⟨z1, z2, z3⟩
    · rw [q1, z1]
    · exact absurd (.inl ⟨k, zs, z2, by rw [← q2]; exact z3⟩) hp
    · exact absurd (.inl ⟨i, ys, q2, by rw [← z2]; exact q3⟩) hp
    · exact R.inj i k ys zs a q2 z2 q3 z3
theorem put_ok {K : PySem.W.Frag} {O : Addr → Prop} {δ δ1 δ2 : Dl} {σ : L2.St} {H H1 : Hp} {v : V} {r : Rv} {i : Nat} (hi : i ≠ 0) (R : Rep K O δ σ H) (s : Stp O δ δ1 σ H H1) (R1 : Rep K O δ1 σ H1) (k : RvOk K O σ δ1 H H1 v r) (h : putR δ1 i r = some δ2) :
    ∃ O2, Tr O O2 δ δ2 σ (σ.set i (some v)) H H1 ∧ Rep K O2 δ2 (σ.set i (some v)) H1 := by
  cases r with
  | b j xs => cases h
  | d x =>
    cases h
    exact ⟨O, s.tr.trans R R1 (bd_set.tr (by simpa using fun z => hi z.symm)), rep_set R1 k⟩
  | l xs =>
    cases h
    obtain ⟨p, vs, rfl, n, e, ha, hr⟩ := k
    have np : ¬ Own δ1 σ p := fun z => R.notOwn n (s.ownI z)
    refine ⟨_, ⟨fun a z => .inl (.inl z), same_hide s.same n, fun a z => z.imp id fun q => by rw [q]; exact n, fun a oa no _ => s.frame a oa no, fun ys a e1 e2 => ?_, fun a ⟨j, ys, e1, e2⟩ => ?_, fun a ⟨j, ys, e1, e2⟩ => ?_, fun a ⟨j, o, e1, e2⟩ => ?_⟩, rep_setO np hr (.inr rfl) e ha⟩
    · rw [List.getElem?_set_ne hi, List.getElem?_set_ne hi]
      exact ⟨(s.own 0).mpr ⟨ys, e1⟩, e2⟩
    · by_cases q : i = j
      · rw [get_set, if_pos q] at e2
        split at e2
        · cases e2; exact .inr n
        · cases e2
      · rw [List.getElem?_set_ne q] at e1 e2
        exact .inl (s.ownL ⟨j, ys, e1, e2⟩)
    · by_cases q : i = j
      · rw [get_set, if_pos q] at e1
        split at e1 <;> cases e1
      · rw [List.getElem?_set_ne q] at e1 e2
        exact .inl ⟨j, ys, s.dm j ys e1, e2⟩
    · by_cases q : i = j
      · rw [get_set, if_pos q] at e1
        split at e1 <;> cases e1
      · rw [List.getElem?_set_ne q] at e1
        exact .inl (s.ownS ⟨j, o, e1, e2⟩)
theorem lift_set (hi : i ≠ 0) {K : PySem.W.Frag} {D : Ends} {σ : L2.St} {H : Hp} (q : liftS K (wSet i we) D σ H) : tAsg (lift K we) (gName i) D σ H := by
  obtain ⟨O, δ, P, R, w, E⟩ := q
  refine ⟨O, δ, _, R, w, fun r δ1 v H1 w1 s1 R1 k1 => ?_⟩
  split at w1
  · rename_i δ2 e
    obtain ⟨O2, tr, R2⟩ := put_ok hi R s1 R1 k1 e
    exact E.nx _ _ _ _ w1 tr R2
  · exact w1.elim
theorem ds_set (i : Nat) (hN : X.N.Nodup) (h : DE X e we) (h0 : i ≠ 0 := by decide) (hi : X.N[i]? = some x := by rfl) (hx : Loc X.env.scope x := by first | exact Or.inl rfl | exact Or.inr rfl) (hs : swapsWith e (some (.Name x pos')) pos.line X.env = pure false := by rfl)
    (hf : X.fn x = true ∨ X.env.scope.names.lookup x = some .local := by first | exact .inl rfl | exact .inr rfl) : DS X (.Assign [.Name x pos'] e pos) (wSet i we) :=
  ps_weak (ps_set hN hi hx h hs hf) fun _ _ _ => lift_set h0
def wAsg (w : WE) (b : WB) : WS := fun P δ => w δ fun r δ1 => match r with
  | .d x => b x δ1 P.nx
  | _ => False
theorem ds_asg (h : DE X e we) (hg : DG X tg js b) (h0 : 0 ∉ js := by decide) (hs : swapsWithSole [tg] e pos.line X.env = pure false := by rfl) (hw : swappedStores [tg] e X.env = pure none := by rfl)
    (h1 : (assignEach [tg] X.env).map (·.2) = [assign tg X.env] := by rfl) : DS X (.Assign [tg] e pos) (wAsg we b) := by
  refine ps_weak (ps_asg h hg hs hw h1) fun D σ H ⟨O, δ, P, R, w, E⟩ => ?_
  refine ⟨O, δ, _, R, w, fun r δ1 v H1 w1 s1 R1 k1 => ?_⟩
  cases r with
  | l xs => exact w1.elim
  | b i xs => exact w1.elim
  | d x => exact ⟨O, δ1, x, _, R1, k1, w1, fun δ2 σ2 w2 bd R2 => E.nx _ _ _ _ w2 (s1.tr.trans R R1 (bd.tr h0)) R2⟩
def wLoop (b : WB) (wb : WS) (P : DEnds) : List PyData → Dl → Prop
  | [], δ => P.nx δ
  | x :: r, δ => b x δ fun δ1 => wb { P with nx := wLoop b wb P r, ct := wLoop b wb P r, bk := P.nx } δ1
def wFor (wi : WI) (b : WB) (wb : WS) : WS := fun P δ => wi δ fun ds δ1 => wLoop b wb P ds δ1
theorem ds_for (hp : PassesOwn (model X.prog X.w) X.A X.env X.xe) (hc : X.calm = true) (hi : DI X tg iter wi) (hg : DG X tg js b) (hb : DSs X body wb) (h0 : 0 ∉ js := by decide)
    (hs : ∀ x, foldedSetIterable iter X.env x = pure x := by intro _; rfl) : DS X (.For tg iter body [] pos) (wFor wi b wb) := by
  refine ps_weak (ps_for hp hc hi hg hb hs) fun D σ H ⟨O, δ, P, R, w, E⟩ => ?_
  refine ⟨O, δ, _, R, w, fun ds δ1 H1 J w1 s1 R1 wk => ?_⟩
  obtain ⟨GG, Y, wk, hG, hY⟩ := wk
  have E1 := E.after R R1 s1.tr
  refine for_it wk (fun i σ' H' => ∃ O' δ', Rep X.K O' δ' σ' H' ∧ Tr O O' δ1 δ' σ σ' H1 H' ∧ wLoop b wb P (ds.drop i) δ') ⟨O, δ1, R1, Tr.refl, w1⟩ ?_ ?_ ?_
  · rintro i σ' H' _ ⟨O', δ', R', tr, _⟩
    exact hG H' (tr.same.trans hid_le)
  · rintro i x σ' H' H2 hi2 ⟨O', δ', R', tr, w2⟩ y
    have e : ds[i]? = some ds[i] := List.getElem?_eq_getElem hi2
    have yl := hY i H' x H2 _ e (tr.same.trans hid_le) y
    have hdrop : ds.drop i = ds[i] :: ds.drop (i + 1) := List.drop_eq_getElem_cons hi2
    rw [hdrop] at w2
    have item : Tr O' O' δ' δ' σ' σ' H' H2 ∧ Rep X.K O' δ' σ' H2 ∧ Dp X.K (hid H2 O') x ds[i] := by
      rcases yl with ⟨rfl, dx⟩ | ⟨T, x1, x2, d1, d2, rfl, nT, rfl, ed, h1, h2⟩
      · exact ⟨Tr.refl, R', Dp.up dx tr.same⟩
      · refine ⟨(Stp.laid R' nT).tr, R'.laid nT, ?_⟩
        rw [ed]
        refine .tup (xs := [x1, x2]) ?_ (.cons (Dp.up (Dp.up h1 tr.same) (hid_new nT)) (.cons (Dp.up (Dp.up h2 tr.same) (hid_new nT)) .nil))
        rw [hid_no (R'.fresh nT)]; exact upd_same
    obtain ⟨tr2, R2, dx⟩ := item
    refine ⟨O', δ', _, _, R2, dx, w2, fun δ3 σ3 w3 bd R3 => ⟨O', δ3, _, R3, w3, ?_⟩⟩
    have tr3 : Tr O O' δ1 δ3 σ σ3 H1 H2 := (tr.trans R1 R' tr2).trans R1 R2 (bd.tr h0)
    have E3 := E1.after R1 R3 tr3
    exact ⟨fun O4 δ4 σ4 H4 p t R4 => ⟨O4, δ4, R4, tr3.trans R1 R3 t, p⟩, E3.rt, fun O4 δ4 σ4 H4 p t R4 => E3.nx _ _ _ _ p t R4, fun O4 δ4 σ4 H4 p t R4 => ⟨O4, δ4, R4, tr3.trans R1 R3 t, p⟩⟩
  · rintro σ' H' ⟨O', δ', R', tr, w2⟩
    rw [List.drop_length] at w2
    exact E1.nx _ _ _ _ w2 tr R'
end
end Dw
namespace Dw
open PySem PySem.Spec PyProof.Rows L2
section
variable {K : PySem.W.Frag} {O : Addr → Prop} {δ δ1 : Dl} {σ : L2.St} {H H1 : Hp} {v : V} {r : Rv} {i : Nat} {xs ys : List PyData} {a : Addr} {vs : List V}
theorem rv_dp (R0 : Rep K O δ σ H) (k : RvOk K O σ δ1 H H1 v r) (n : noB r = true) : Dp K (hid H1 O) v r.as := by
  cases r with
  | d x => exact k
  | b i xs => cases n
  | l xs =>
    obtain ⟨p, us, rfl, n, e, ha, hr⟩ := k
    refine .lst (.inl (.inl ?_)) (DpAll.up ha (hid_sub fun a z => .inl z))
    rw [hid_no (R0.fresh n)]; exact e
theorem upd_own (R1 : Rep K O δ1 σ H1) (e : δ1[i]? = some (.o xs)) (ea : σ[i]? = some (some (.ref a))) (dp : DpAll K (hid H1 O) vs ys) : Stp O δ1 (δ1.set i (.o ys)) σ H1 (upd H1 a (.lst vs)) ∧ Rep K O (δ1.set i (.o ys)) σ (upd H1 a (.lst vs)) := by
  obtain ⟨a', us, e1, z, e2, d⟩ := R1.lst i xs e
  rw [ea] at e1; cases e1
  refine after_own R1 e ea ?_ (fun b _ nb => upd_ne nb) upd_same ?_
  · rw [hid_upd z]; exact Same.refl _
  · rw [hid_upd z]; exact dp
theorem da_erase : ∀ {vs : List V} {ds : List PyData} (j : Nat), DpAll K H vs ds → DpAll K H (vs.eraseIdx j) (ds.eraseIdx j)
  | [], _, _, h => by cases h; exact .nil
  | v0 :: vs, _, 0, h => by
    cases h with
    | cons h1 h2 => exact h2
  | v0 :: vs, _, j + 1, h => by
    cases h with
    | cons h1 h2 => exact .cons h1 (da_erase j h2)
end
section
variable {X : Cx} {e e2 ix : Expr} {we we2 wi : WE} {pos p apos cpos : Pos} {es : List Expr} {y : Str}
def wApp1 (i : Nat) (P : Rv → Dl → Prop) (r : Rv) (δ1 : Dl) : Prop := match δ1[i]? with
  | some (.o xs) => xs.length < 100000 ∧ P (.d .none) (δ1.set i (.o (xs ++ [r.as])))
  | _ => False
def wApp (i : Nat) (w : WE) : WE := fun δ P => match δ[i]? with
  | some (.o _) => w δ fun r δ1 => noB r = true ∧ wApp1 i P r δ1
  | _ => False
theorem small5 {n : Nat} (h : n < 100000) : n < sizeLine := Nat.lt_of_lt_of_le h (by rw [sizeLine_eq]; decide)
theorem de_append (i : Nat) (he : DE X e we) (hN : X.N[i]? = some y := by rfl) (hv : Vis X.env.scope y := by first | exact Or.inl rfl | exact Or.inr (Or.inl rfl) | exact Or.inr (Or.inr rfl)) (hy : (y == ("__debug__" : Str)) = false := by decide) (hcd : (y == ("__classdict__" : Str)) = false := by decide)
    (hbase : attributeBase (.Name y p) "append" X.env (eval (.Name y p) X.env) = eval (.Name y p) X.env := by rfl)
    (hfew : ((backTo cpos (starEach [e] X.env)).all (fun x => !x.1) && (backToKw cpos (keywordEach [] X.env)).all (fun x => x.1.isSome) && decide ([e].length + ([] : List Keyword).length + (if ([] : List Keyword).isEmpty then 0 else 1) < 30)) = true := by rfl)
    (hline : (apos.endLine == cpos.line) = true := by rfl) (hs : starEach [e] X.env = (false, eval e X.env) :: starEach [] X.env := by rfl) :
    DE X (.Call (.Attribute (.Name y p) "append" apos) [e] [] cpos) (wApp i we) := by
  refine pe_weak (pe_bm PySem.F.plainAttrs_list PySem.F.slot_list_append PySem.F.type_list_append mt_append (pe_var hN hv hy hcd) (pa_cons he pa_nil hs) hbase hfew hline hs) fun σ H Q ⟨O, δ, P, R0, w, f⟩ => ?_
  unfold wApp at w
  split at w
  · rename_i xs0 e0
    obtain ⟨a, us, ea, oa, e2, _⟩ := R0.lst i xs0 e0
    refine ⟨.ref a, ea, .inl ⟨rfl, us, .inl (.inl e2)⟩, O, δ, _, R0, w, fun r δ1 v H1 w1 s1 R1 k1 => ?_⟩
    obtain ⟨n, w1⟩ := w1
    unfold wApp1 at w1
    split at w1
    · rename_i xs e1
      obtain ⟨a', vs, ea', oa', e3, d⟩ := R1.lst i xs e1
      rw [ea] at ea'; cases ea'
      have dv := rv_dp R0 k1 n
      obtain ⟨s2, R2⟩ := upd_own R1 e1 ea (da_app d (.cons dv .nil))
      exact ⟨a, vs, v, rfl, rfl, e3, small5 (by rw [da_len d]; exact w1.1), f _ _ _ _ w1.2 (s1.trans s2) R2 .non⟩
    · exact w1.elim
  · exact w.elim
def wPop1 (i : Nat) (P : Rv → Dl → Prop) (r : Rv) (δ1 : Dl) : Prop := match δ1[i]?, r with
  | some (.o xs), .d (.int k) => match ixN xs.length k with
    | some j => match xs[j]? with
      | some z => xs.length < 100000 ∧ P (.d z) (δ1.set i (.o (xs.eraseIdx j)))
      | none => False
    | none => False
  | _, _ => False
def wPop (i : Nat) (w : WE) : WE := fun δ P => match δ[i]? with
  | some (.o _) => w δ fun r δ1 => wPop1 i P r δ1
  | _ => False
theorem de_popAt (i : Nat) (he : DE X e we) (hN : X.N[i]? = some y := by rfl) (hv : Vis X.env.scope y := by first | exact Or.inl rfl | exact Or.inr (Or.inl rfl) | exact Or.inr (Or.inr rfl)) (hy : (y == ("__debug__" : Str)) = false := by decide) (hcd : (y == ("__classdict__" : Str)) = false := by decide)
    (hbase : attributeBase (.Name y p) "pop" X.env (eval (.Name y p) X.env) = eval (.Name y p) X.env := by rfl)
    (hfew : ((backTo cpos (starEach [e] X.env)).all (fun x => !x.1) && (backToKw cpos (keywordEach [] X.env)).all (fun x => x.1.isSome) && decide ([e].length + ([] : List Keyword).length + (if ([] : List Keyword).isEmpty then 0 else 1) < 30)) = true := by rfl)
    (hline : (apos.endLine == cpos.line) = true := by rfl) (hs : starEach [e] X.env = (false, eval e X.env) :: starEach [] X.env := by rfl) :
    DE X (.Call (.Attribute (.Name y p) "pop" apos) [e] [] cpos) (wPop i we) := by
  refine pe_weak (pe_bm PySem.F.plainAttrs_list PySem.F.slot_list_pop PySem.F.type_list_pop mt_popAt (pe_var hN hv hy hcd) (pa_cons he pa_nil hs) hbase hfew hline hs) fun σ H Q ⟨O, δ, P, R0, w, f⟩ => ?_
  unfold wPop at w
  split at w
  · rename_i xs0 e0
    obtain ⟨a, us, ea, oa, e2, _⟩ := R0.lst i xs0 e0
    refine ⟨.ref a, ea, .inl ⟨rfl, us, .inl (.inl e2)⟩, O, δ, _, R0, w, fun r δ1 v H1 w1 s1 R1 k1 => ?_⟩
    unfold wPop1 at w1
    split at w1
    · rename_i xs k e1
      split at w1
      · rename_i j ej
        split at w1
        · rename_i z ez
          obtain ⟨a', vs, ea', oa', e3, d⟩ := R1.lst i xs e1
          rw [ea] at ea'; cases ea'
          have k1 : Dp X.K (hid H1 O) v (.int k) := k1
          cases k1
          obtain ⟨q1, q2, q3, q4⟩ := ixN_seq ej
          obtain ⟨vz, g1, g2⟩ := da_get d ez
          obtain ⟨s2, R2⟩ := upd_own R1 e1 ea (da_erase j d)
          have hz := w1.1
          exact ⟨a, vs, k, j, vz, rfl, rfl, e3, by omega, by omega, by rw [da_len d]; exact q1, g1, f _ _ _ _ w1.2 (s1.trans s2) R2 (by show Dp X.K (hid (upd H1 a (.lst (vs.eraseIdx j))) O) vz z; rw [hid_upd oa]; exact g2)⟩
        · exact w1.elim
      · exact w1.elim
    · exact w1.elim
  · exact w.elim
def wSetI1 (i : Nat) (P : DEnds) (r s : Rv) (δ2 : Dl) : Prop := match δ2[i]?, s with
  | some (.o xs), .d (.int k) => match ixN xs.length k with
    | some j => P.nx (δ2.set i (.o (xs.set j r.as)))
    | none => False
  | _, _ => False
def wSetI (i : Nat) (wi w : WE) : WS := fun P δ => w δ fun r δ1 => noB r = true ∧ match δ1[i]? with
  | some (.o _) => wi δ1 fun s δ2 => wSetI1 i P r s δ2
  | _ => False
theorem ds_setI (i : Nat) (hix : DE X ix wi) (he : DE X e we) (hN : X.N[i]? = some y := by rfl) (hv : Vis X.env.scope y := by first | exact Or.inl rfl | exact Or.inr (Or.inl rfl) | exact Or.inr (Or.inr rfl)) (hy : (y == ("__debug__" : Str)) = false := by decide) (hcd : (y == ("__classdict__" : Str)) = false := by decide)
    (ha : ∀ v, assign (.Subscript (.Name y p) ix apos) X.env v = (do
      let ov ← holding [v] (eval (.Name y p) X.env)
      let iv ← holding [v, ov] (eval ix X.env)
      standAt apos
      holding [v, ov, iv] (setItem ov iv v)
      release [v, ov, iv] []) := by intro _; rfl)
    (hs : swapsWithSole [.Subscript (.Name y p) ix apos] e pos.line X.env = pure false := by rfl) (hw : swappedStores [.Subscript (.Name y p) ix apos] e X.env = pure none := by rfl)
    (h1 : (assignEach [.Subscript (.Name y p) ix apos] X.env).map (·.2) = [assign (.Subscript (.Name y p) ix apos) X.env] := by rfl) :
    DS X (.Assign [.Subscript (.Name y p) ix apos] e pos) (wSetI i wi we) := by
  refine ps_weak (ps_asg he (pg_sub (pe_var hN hv hy hcd) hix set_list ha) hs hw h1) fun D σ H ⟨O, δ, P, R0, w, E⟩ => ?_
  refine ⟨O, δ, _, R0, w, fun r δ1 v H1 w1 s1 R1 k1 => ?_⟩
  obtain ⟨n, w1⟩ := w1
  split at w1
  · rename_i xs0 e0
    obtain ⟨a, us, ea, oa, e2, _⟩ := R1.lst i xs0 e0
    refine ⟨.ref a, ea, O, δ1, _, R1, w1, fun s δ2 u H2 w2 s2 R2 k2 => ?_⟩
    unfold wSetI1 at w2
    split at w2
    · rename_i xs k e1
      split at w2
      · rename_i j ej
        obtain ⟨a', vs, ea', oa', e3, d⟩ := R2.lst i xs e1
        rw [ea] at ea'; cases ea'
        have k2 : Dp X.K (hid H2 O) u (.int k) := k2
        cases k2
        have dv := Dp.up (rv_dp R0 k1 n) s2.same
        obtain ⟨s3, R3⟩ := upd_own R2 e1 ea (da_set dv j d)
        exact ⟨a, vs, k, j, rfl, rfl, e3, by rw [da_len d]; exact ej, E.nx _ _ _ _ w2 ((s1.trans s2).trans s3).tr R3⟩
      · exact w2.elim
    · exact w2.elim
  · exact w1.elim
def wExt1 (i : Nat) (P : Rv → Dl → Prop) (r : Rv) (δ1 : Dl) : Prop := match δ1[i]?, r with
  | some (.o xs), .d (.tuple ys) => xs.length + ys.length < 100000 ∧ P (.d .none) (δ1.set i (.o (xs ++ ys)))
  | _, _ => False
def wExt (i : Nat) (w : WE) : WE := fun δ P => match δ[i]? with
  | some (.o _) => w δ fun r δ1 => wExt1 i P r δ1
  | _ => False
end
section
variable {X : Cx} {tg tg1 iter iter1 e elt : Expr} {we el : WE} {wi wi1 : WI} {pos spos p py : Pos} {ifs ifs1 : List Expr} {scope : Scope} {own : List (Str × Nat)} {js js1 vs1 : List Nat} {b b1 : WB} {t t1 : WT} {y : Str}
theorem ds_setLc (i : Nat) (hc : X.calm = true) (hN : X.N.Nodup) (hi : DI X tg iter wi) (ok : BlkOk X.N X.env.scope scope own)
    (hg : ∀ (s : Shared) (H : Hp) (C : Addr) (cl : List (Str × Addr)) (fp : List Addr), DG (X.blk s H scope (compEnvC scope cl C X.env) fp) tg js b) (ht : ∀ (s : Shared) (H : Hp) (C : Addr) (cl : List (Str × Addr)) (fp : List Addr), DTs (X.blk s H scope (compEnvC scope cl C X.env) fp) ifs t)
    (he : ∀ (s : Shared) (H : Hp) (C : Addr) (cl : List (Str × Addr)) (fp : List Addr), DE (X.blk s H scope (compEnvC scope cl C X.env) fp) elt el) (h0 : i ≠ 0 := by decide) (hy : X.N[i]? = some y := by rfl) (hyl : X.env.scope.names.lookup y = some .local := by rfl)
    (hsw : swapsWith (.ListComp elt [⟨tg, iter, ifs, 0⟩] scope pos) (some (.Name y py)) spos.line X.env = pure true := by exact sw_true rfl rfl rfl (by decide +kernel)) (hjs : ∀ j ∈ js, j ∈ own.map (·.2) := by decide) (hs : ∀ x, foldedSetIterable iter X.env x = pure x := by intro _; rfl) :
    DS X (.Assign [.Name y py] (.ListComp elt [⟨tg, iter, ifs, 0⟩] scope pos) spos) (wSet i (wLc wi b t el (own.map (·.2)))) :=
  ps_weak (ps_setLc (wi := liftI X.K wi) (g := liftG X.K js b) (tt := liftT X.K t) (te := lift X.K el) hc hN hy hyl hsw hi ok hg ht he hs) fun D σ H q => lift_lc hjs (lift_set h0 q)
end
section
variable {X : Cx} {a b : Expr} {wa wb : WE} {pos px py pt pt2 : Pos} {x y : Str} {i j kt k2 : Nat}
def wPair (i j : Nat) (wa wb : WE) : WS := fun P δ => wa δ fun r δ1 => noB r = true ∧ wb δ1 fun s δ2 => noB s = true ∧ match putR δ2 i r with
  | some δ3 => match putR δ3 j s with
    | some δ4 => P.nx δ4
    | none => False
  | none => False
def HeldV (K : PySem.W.Frag) (O : Addr → Prop) (H0 : Hp) (δ : Dl) (σ : L2.St) (H : Hp) (v : V) : Rv → Prop
  | .d x => Dp K (hid H O) v x
  | .l xs => ∃ p vs, v = .ref p ∧ O p ∧ H0 p = none ∧ ¬ Own δ σ p ∧ H p = some (.lst vs) ∧ DpAll K (hid H O) vs xs
  | .b _ _ => False
section
variable {K : PySem.W.Frag} {O O1 : Addr → Prop} {δ δ1 δ2 δ3 : Dl} {σ0 σ : L2.St} {H0 H H1 H2 : Hp} {v : V} {r : Rv}
theorem hold_ok (R0 : Rep K O δ σ H0) (s : Stp O δ δ1 σ H0 H1) (R1 : Rep K O δ1 σ H1) (k : RvOk K O σ δ1 H0 H1 v r) (n : noB r = true) (G : Hp) (hG : ∀ p, H0 p = none → G p = none) :
    ∃ O1, (∀ a, O a → O1 a) ∧ (∀ a, O1 a → O a ∨ H0 a = none) ∧ Same (hid H0 O) (hid H1 O1) ∧ (∀ a, O a → ¬ Own δ σ a → H1 a = H0 a) ∧ (∀ (i : Nat), (∃ xs, δ1[i]? = some (Sl.o xs)) ↔ (∃ xs, δ[i]? = some (Sl.o xs))) ∧ Rep K O1 δ1 σ H1 ∧ HeldV K O1 G δ1 σ H1 v r := by
  cases r with
  | b i xs => cases n
  | d x => exact ⟨O, fun _ z => z, fun _ z => .inl z, s.same, s.frame, s.own, R1, k⟩
  | l xs =>
    obtain ⟨p, vs, rfl, n, e, ha, hr⟩ := k
    refine ⟨_, fun _ z => .inl z, fun a z => z.imp id fun q => by rw [q]; exact n, same_hide s.same n, s.frame, s.own, hr, p, vs, rfl, .inr rfl, hG p n, fun z => R0.notOwn n (s.ownI z), e, ha⟩
theorem held_put {i : Nat} (hi : i ≠ 0) (R : Rep K O1 δ2 σ H2) (tr : Tr O O1 δ δ2 σ0 σ H H2) (h : HeldV K O1 H δ2 σ H2 v r) (e : putR δ2 i r = some δ3) : Rep K O1 δ3 (σ.set i (some v)) H2 ∧ Tr O O1 δ δ3 σ0 (σ.set i (some v)) H H2 := by
  have kp : ∀ (δ3 : Dl), (∀ (j : Nat), j ≠ i → δ3[j]? = δ2[j]?) → ∀ xs a, δ[0]? = some (Sl.o xs) → σ0[0]? = some (some (V.ref a)) → (∃ ys, δ3[0]? = some (Sl.o ys)) ∧ (σ.set i (some v))[0]? = some (some (V.ref a)) := fun δ3 hd xs a e1 e2 => by
    rw [hd 0 fun z => hi z.symm, List.getElem?_set_ne hi]
    exact tr.keep xs a e1 e2
  cases r with
  | b j xs => cases e
  | d x =>
    cases e
    refine ⟨rep_set R h, tr.sub, tr.same, tr.new, tr.frame, kp _ fun j hj => List.getElem?_set_ne fun z => hj z.symm, fun a ⟨j, ys, e1, e2⟩ => ?_, fun a ⟨j, ys, e1, e2⟩ => ?_, fun a ⟨j, o, e1, e2⟩ => ?_⟩
    · by_cases q : i = j
      · rw [get_set, if_pos q] at e1
        split at e1 <;> cases e1
      · rw [List.getElem?_set_ne q] at e1 e2
        exact tr.own a ⟨j, ys, e1, e2⟩
    · by_cases q : i = j
      · rw [get_set, if_pos q] at e1
        split at e1 <;> cases e1
      · rw [List.getElem?_set_ne q] at e1 e2
        exact tr.ownM a ⟨j, ys, e1, e2⟩
    · by_cases q : i = j
      · rw [get_set, if_pos q] at e1
        split at e1 <;> cases e1
      · rw [List.getElem?_set_ne q] at e1
        exact tr.ownS a ⟨j, o, e1, e2⟩
  | l xs =>
    cases e
    obtain ⟨p, vs, rfl, op, n0, no, e2, d⟩ := h
    refine ⟨rep_setO no R op e2 d, tr.sub, tr.same, tr.new, tr.frame, kp _ fun j hj => List.getElem?_set_ne fun z => hj z.symm, fun a ⟨j, ys, e1, e2⟩ => ?_, fun a ⟨j, ys, e1, e2⟩ => ?_, fun a ⟨j, o, e1, e2⟩ => ?_⟩
    · by_cases q : i = j
      · rw [get_set, if_pos q] at e2
        split at e2
        · cases e2; exact .inr n0
        · cases e2
      · rw [List.getElem?_set_ne q] at e1 e2
        exact tr.own a ⟨j, ys, e1, e2⟩
    · by_cases q : i = j
      · rw [get_set, if_pos q] at e1
        split at e1 <;> cases e1
      · rw [List.getElem?_set_ne q] at e1 e2
        exact tr.ownM a ⟨j, ys, e1, e2⟩
    · by_cases q : i = j
      · rw [get_set, if_pos q] at e1
        split at e1 <;> cases e1
      · rw [List.getElem?_set_ne q] at e1
        exact tr.ownS a ⟨j, o, e1, e2⟩
end
theorem pair_ok {K : PySem.W.Frag} {D : Ends} {σ : L2.St} {H : Hp} {Q : V → V → Hp → Prop} (hi : i ≠ 0) (hj : j ≠ 0) (q : liftS K (wPair i j wa wb) D σ H)
    (fin : ∀ v w H', D.nx ((σ.set i (some v)).set j (some w)) H' → (∀ p o, H' p = none → D.nx ((σ.set i (some v)).set j (some w)) (upd H' p o)) → Q v w H') : lift K wa σ H fun v H1 => lift K wb σ H1 fun w H2 => Q v w H2 := by
  obtain ⟨O, δ, P, R, w, E⟩ := q
  refine ⟨O, δ, _, R, w, fun r δ1 v H1 w1 s1 R1 k1 => ?_⟩
  obtain ⟨nr, w1⟩ := w1
  obtain ⟨O1, a1, a2, a3, a4, a5, R1', h1⟩ := hold_ok R s1 R1 k1 nr H fun _ z => z
  have tr1 : Tr O O1 δ δ1 σ σ H H1 := ⟨fun a z => .inl (a1 a z), a3, a2, fun a z n _ => a4 a z n, fun xs a e1 e2 => ⟨(a5 0).mpr ⟨xs, e1⟩, e2⟩, fun a z => .inl (s1.ownL z), fun a ⟨i, kvs, e1, e2⟩ => .inl ⟨i, kvs, s1.dm i kvs e1, e2⟩, fun a z => .inl (s1.ownS z)⟩
  refine ⟨O1, δ1, _, R1', w1, fun s δ2 u H2 w2 s2 R2 k2 => ?_⟩
  obtain ⟨ns, w2⟩ := w2
  obtain ⟨O2, b1, b2, b3, b4, b5, R2', h2⟩ := hold_ok R1' s2 R2 k2 ns H fun p z => tr1.back R R1' z
  have tr2 : Tr O1 O2 δ1 δ2 σ σ H1 H2 := ⟨fun a z => .inl (b1 a z), b3, b2, fun a z n _ => b4 a z n, fun xs a e1 e2 => ⟨(b5 0).mpr ⟨xs, e1⟩, e2⟩, fun a z => .inl (s2.ownL z), fun a ⟨i, kvs, e1, e2⟩ => .inl ⟨i, kvs, s2.dm i kvs e1, e2⟩, fun a z => .inl (s2.ownS z)⟩
  have tr := tr1.trans R R1' tr2
  have h1' : HeldV K O2 H δ2 σ H2 v r := by
    cases r with
    | b i xs => cases nr
    | d x => exact Dp.up h1 b3
    | l xs =>
      obtain ⟨p, vs, e1, op, n0, no, e2, d⟩ := h1
      exact ⟨p, vs, e1, b1 p op, n0, fun z => no (s2.ownI z), by rw [b4 p op no]; exact e2, DpAll.up d b3⟩
  split at w2
  · rename_i δ3 e3
    split at w2
    · rename_i δ4 e4
      obtain ⟨R3, tr3⟩ := held_put hi R2' tr h1' e3
      have h2' : HeldV K O2 H δ3 (σ.set i (some v)) H2 u s := by
        cases s with
        | b i xs => cases ns
        | d x => exact h2
        | l xs =>
          obtain ⟨p, vs, e1, op, n0, no, e2, d⟩ := h2
          have nS : ¬ OwnS δ3 p := fun ⟨l, o, q1, q2⟩ => no (.inr (by
            by_cases q : i = l
            · cases r with
              | b i xs => cases nr
              | d x => cases e3; rw [get_set, if_pos q] at q1; split at q1 <;> cases q1
              | l xs => cases e3; rw [get_set, if_pos q] at q1; split at q1 <;> cases q1
            · cases r with
              | b i xs => cases nr
              | d x => cases e3; rw [List.getElem?_set_ne q] at q1; exact ⟨l, o, q1, q2⟩
              | l xs => cases e3; rw [List.getElem?_set_ne q] at q1; exact ⟨l, o, q1, q2⟩))
          refine ⟨p, vs, e1, op, n0, fun z => z.elim (fun ⟨l, ys, q1, q2⟩ => ?_) nS, e2, d⟩
          by_cases q : i = l
          · rw [get_set, if_pos q] at q2
            split at q2
            · cases q2
              obtain ⟨p', vs', z1, z2, z3, _⟩ := k2
              have z1 : u = .ref p' := z1
              rw [e1] at z1; cases z1
              cases r with
              | b i xs => cases nr
              | d x =>
                cases e3
                rw [get_set, if_pos q] at q1
                split at q1 <;> cases q1
              | l xs =>
                obtain ⟨p2, vs2, y1, y2, y3, y4, y5, _⟩ := h1
                cases y1
                rw [z2] at y5; cases y5
            · cases q2
          · rw [List.getElem?_set_ne q] at q2
            have q1' : δ2[l]? = some (Sl.o ys) := by
              cases r with
              | b i xs => cases nr
              | d x => cases e3; rw [List.getElem?_set_ne q] at q1; exact q1
              | l xs => cases e3; rw [List.getElem?_set_ne q] at q1; exact q1
            exact no (.inl ⟨l, ys, q1', q2⟩)
      obtain ⟨R4, tr4⟩ := held_put hj R3 tr3 h2' e4
      exact fin _ _ _ (E.nx _ _ _ _ w2 tr4 R4) fun p o hp => E.nx _ _ _ _ w2 (tr4.trans R R4 (Stp.laid R4 hp).tr) (R4.laid hp)
    · exact w2.elim
  · exact w2.elim
end
def outD : Dl → Dl → Dl
  | .o _ :: t, .o ys :: _ => .o ys :: t
  | d, _ => d
def endsOf (δa : Dl) (P : Rv → Dl → Prop) : DEnds where
  nx := fun δ' => P (.d .none) (outD δa δ')
  rt := fun r δ' => match r with
    | .b i xs => i ≠ 0 ∧ P (.l xs) (outD δa δ')
    | .d x => P (.d x) (outD δa δ')
    | .l xs => P (.l xs) (outD δa δ')
  bk := fun _ => False
  ct := fun _ => False
def ArgOk (n : Nat) (δ : Dl) : Prop := δ.length = n ∧ (∀ (i : Nat) (xs : List PyData), δ[i]? = some (Sl.o xs) → i = 0) ∧ ∀ (i : Nat) (s : Sl), δ[i]? = some s → noMk s = true
theorem get_app {α : Type} {xs ys : List α} {i : Nat} : (xs ++ ys)[i]? = if i < xs.length then xs[i]? else ys[i - xs.length]? := by
  by_cases h : i < xs.length
  · rw [if_pos h, List.getElem?_append_left h]
  · rw [if_neg h, List.getElem?_append_right (Nat.le_of_not_lt h)]
theorem start_ok {K : PySem.W.Frag} {O : Addr → Prop} {δ : Dl} {N ps : List Str} {ys : List V} {G : Hp} {Pd : Rv → Dl → Prop} {Q : VK} (ly : ys.length = ps.length) (R : Rep K O δ (ys.map some) G) (ao : ArgOk ps.length δ)
    (f : ∀ r δ' v H', Pd r δ' → Stp O δ δ' (ys.map some) G H' → Rep K O δ' (ys.map some) H' → RvOk K O (ys.map some) δ' G H' v r → Q v H') :
    Rep K O (δ ++ List.replicate (N.length - ps.length) Sl.un) (L2.start N ys) G ∧ EOk K O (δ ++ List.replicate (N.length - ps.length) Sl.un) (L2.start N ys) G (endsOf δ Pd) { nx := fun _ G' => Q .non G', rt := Q } ∧
      (∀ a, Own (δ ++ List.replicate (N.length - ps.length) Sl.un) (L2.start N ys) a → Own δ (ys.map some) a) ∧ ∀ a, ¬ ∃ (i : Nat) (kvs : List (List Int × PyData)), (δ ++ List.replicate (N.length - ps.length) Sl.un)[i]? = some (Sl.m kvs) ∧ (L2.start N ys)[i]? = some (some (V.ref a)) := by
  obtain ⟨hl, h0, hnm⟩ := ao
  have st_ : L2.start N ys = ys.map some ++ List.replicate (N.length - ps.length) none := by
    unfold L2.start
    rw [ly]
  have atL : ∀ (i : Nat) (s : Sl), s ≠ .un → (δ ++ List.replicate (N.length - ps.length) Sl.un)[i]? = some s → i < δ.length ∧ δ[i]? = some s := fun i s ns e => by
    rw [get_app] at e
    by_cases h : i < δ.length
    · rw [if_pos h] at e; exact ⟨h, e⟩
    · rw [if_neg h, List.getElem?_replicate] at e
      split at e
      · exact absurd (Option.some.inj e).symm ns
      · cases e
  have atR : ∀ (i : Nat), i < δ.length → (L2.start N ys)[i]? = (ys.map some)[i]? := fun i h => by
    rw [st_, List.getElem?_append_left (by rw [List.length_map, ly, ← hl]; exact h)]
  have R2 : Rep K O (δ ++ List.replicate (N.length - ps.length) Sl.un) (L2.start N ys) G := by
    refine ⟨?_, fun i x e => ?_, fun i xs e => ?_, fun i j xs zs a e1 e2 e3 e4 => ?_, R.occ, .none fun i s e => ?_⟩
    · rw [st_, List.length_append, List.length_append, List.length_replicate, List.length_replicate, R.len]
    · obtain ⟨h, e⟩ := atL i (.d x) (by intro z; cases z) e
      rw [atR i h]; exact R.dat i x e
    · obtain ⟨h, e⟩ := atL i (.o xs) (by intro z; cases z) e
      rw [atR i h]; exact R.lst i xs e
    · obtain ⟨h, e1⟩ := atL i (.o xs) (by intro z; cases z) e1
      obtain ⟨h', e2⟩ := atL j (.o zs) (by intro z; cases z) e2
      rw [atR i h] at e3
      rw [atR j h'] at e4
      exact R.inj i j xs zs a e1 e2 e3 e4
    · cases s with
      | un => rfl
      | d x => rfl
      | o xs => rfl
      | m x => exact hnm i _ (atL i (.m x) (by intro z; cases z) e).2
      | k x => exact hnm i _ (atL i (.k x) (by intro z; cases z) e).2
      | s x => exact hnm i _ (atL i (.s x) (by intro z; cases z) e).2
  have ownL : ∀ a, Own (δ ++ List.replicate (N.length - ps.length) Sl.un) (L2.start N ys) a → Own δ (ys.map some) a := fun a z => by
    rcases z with ⟨i, xs, e1, e2⟩ | ⟨i, o, e1, e2⟩
    · obtain ⟨h, e1⟩ := atL i (.o xs) (by intro z; cases z) e1
      rw [atR i h] at e2
      exact .inl ⟨i, xs, e1, e2⟩
    · exact nomatch hnm i _ (atL i (.s o) (by intro z; cases z) e1).2
  have fsub : ∀ O' δ' σ' G', Tr O O' (δ ++ List.replicate (N.length - ps.length) Sl.un) δ' (L2.start N ys) σ' G G' → ∀ a, O a → O' a := fun O' δ' σ' G' tr a z =>
    (tr.sub a z).elim id fun ⟨⟨i, xs, ni, e1, _⟩, _⟩ => absurd (h0 i xs (atL i (.o xs) (by intro z; cases z) e1).2) ni
  -- the parameters behind the body
  have outp : ∀ O' δ' σ' G', Tr O O' (δ ++ List.replicate (N.length - ps.length) Sl.un) δ' (L2.start N ys) σ' G G' → Rep K O' δ' σ' G' → ∀ O2 : Addr → Prop, (∀ a, O a → O2 a) → Same (hid G O) (hid G' O2) → (∀ a, O2 a → ∃ o, G' a = some o) →
      (∀ (zs : List PyData), δ'[0]? = some (Sl.o zs) → ∀ a, σ'[0]? = some (some (V.ref a)) → ∃ us, G' a = some (.lst us) ∧ DpAll K (hid G' O2) us zs) → Rep K O2 (outD δ δ') (ys.map some) G' ∧ (∀ (i : Nat), (∃ xs, (outD δ δ')[i]? = some (Sl.o xs)) ↔ (∃ xs, δ[i]? = some (Sl.o xs))) ∧ (∀ (i : Nat) (x : PyData), (outD δ δ')[i]? = some (Sl.d x) ↔ δ[i]? = some (Sl.d x)) := by
    intro O' δ' σ' G' tr R' O2 sub same occ own0
    cases hδ : δ with
    | nil =>
      have e : outD [] δ' = [] := by cases δ' <;> rfl
      rw [e]
      refine ⟨⟨by rw [← hδ]; exact R.len, fun i x z => by simp at z, fun i x z => by simp at z, fun i j xs zs a z => by simp at z, occ, .none fun i s z => by simp at z⟩, fun _ => Iff.rfl, fun _ _ => Iff.rfl⟩
    | cons s0 t =>
      have dataOnly : ∀ d0 : Dl, outD δ δ' = d0 → (∀ (i : Nat) (x : PyData), d0[i]? = some (Sl.d x) → δ[i]? = some (Sl.d x)) → True := fun _ _ _ => trivial
      have tl : ∀ (i : Nat) (xs : List PyData), t[i]? ≠ some (Sl.o xs) := fun i xs z => by
        have := h0 (i + 1) xs (by rw [hδ]; exact z)
        omega
      cases s0 with
      | m x => exact nomatch hnm 0 (.m x) (by rw [hδ]; rfl)
      | k x => exact nomatch hnm 0 (.k x) (by rw [hδ]; rfl)
      | s x => exact nomatch hnm 0 (.s x) (by rw [hδ]; rfl)
      | o xs0 =>
        obtain ⟨a, us, ea, oa, e2, _⟩ := R.lst 0 xs0 (by rw [hδ]; rfl)
        have hb0 : (δ ++ List.replicate (N.length - ps.length) Sl.un)[0]? = some (Sl.o xs0) := by rw [hδ]; rfl
        have hs0 : (L2.start N ys)[0]? = some (some (V.ref a)) := by rw [atR 0 (by rw [hδ]; simp)]; exact ea
        obtain ⟨⟨zs, k1⟩, k2⟩ := tr.keep xs0 a hb0 hs0
        obtain ⟨us2, g1, g2⟩ := own0 zs k1 a k2
        obtain ⟨δt, rfl⟩ : ∃ δt, δ' = .o zs :: δt := by
          cases δ' with
          | nil => simp at k1
          | cons q qs =>
            have : q = .o zs := Option.some.inj k1
            exact ⟨qs, by rw [this]⟩
        show Rep K O2 (.o zs :: t) (ys.map some) G' ∧ _
        refine ⟨⟨by have := R.len; rw [hδ] at this; exact this, fun i x z => ?_, fun i xs z => ?_, fun i j xs ws b z1 z2 _ _ => ?_, occ, .none fun i s z => by cases i with | zero => cases z; rfl | succ i => exact hnm (i + 1) s (by rw [hδ]; exact z)⟩, fun i => ?_, fun i x => ?_⟩
        · cases i with
          | zero => cases z
          | succ i =>
            obtain ⟨v, q1, q2⟩ := R.dat (i + 1) x (by rw [hδ]; exact z)
            exact ⟨v, q1, Dp.up q2 same⟩
        · cases i with
          | zero => cases z; exact ⟨a, us2, ea, sub a oa, g1, g2⟩
          | succ i => exact absurd z (tl i xs)
        · cases i with
          | zero =>
            cases j with
            | zero => rfl
            | succ j => exact absurd z2 (tl j ws)
          | succ i => exact absurd z1 (tl i xs)
        · cases i with
          | zero => exact ⟨fun _ => ⟨xs0, rfl⟩, fun _ => ⟨zs, rfl⟩⟩
          | succ i => exact Iff.rfl
        · cases i with
          | zero => exact ⟨fun z => (nomatch z), fun z => (nomatch z)⟩
          | succ i => exact Iff.rfl
      | un =>
        show Rep K O2 (.un :: t) (ys.map some) G' ∧ _
        refine ⟨⟨by have := R.len; rw [hδ] at this; exact this, fun i x z => ?_, fun i xs z => ?_, fun i j xs ws b z1 z2 _ _ => ?_, occ, .none fun i s z => hnm i s (by rw [hδ]; exact z)⟩, fun _ => Iff.rfl, fun _ _ => Iff.rfl⟩
        · obtain ⟨v, q1, q2⟩ := R.dat i x (by rw [hδ]; exact z)
          exact ⟨v, q1, Dp.up q2 same⟩
        · cases i with
          | zero => cases z
          | succ i => exact absurd z (tl i xs)
        · cases i with
          | zero => cases z1
          | succ i => exact absurd z1 (tl i xs)
      | d x0 =>
        show Rep K O2 (.d x0 :: t) (ys.map some) G' ∧ _
        refine ⟨⟨by have := R.len; rw [hδ] at this; exact this, fun i x z => ?_, fun i xs z => ?_, fun i j xs ws b z1 z2 _ _ => ?_, occ, .none fun i s z => hnm i s (by rw [hδ]; exact z)⟩, fun _ => Iff.rfl, fun _ _ => Iff.rfl⟩
        · obtain ⟨v, q1, q2⟩ := R.dat i x (by rw [hδ]; exact z)
          exact ⟨v, q1, Dp.up q2 same⟩
        · cases i with
          | zero => cases z
          | succ i => exact absurd z (tl i xs)
        · cases i with
          | zero => cases z1
          | succ i => exact absurd z1 (tl i xs)
  have done : ∀ O' δ' σ' G', Tr O O' (δ ++ List.replicate (N.length - ps.length) Sl.un) δ' (L2.start N ys) σ' G G' → Rep K O' δ' σ' G' → Stp O δ (outD δ δ') (ys.map some) G G' ∧ Rep K O (outD δ δ') (ys.map some) G' := by
    intro O' δ' σ' G' tr R'
    have trs := fsub _ _ _ _ tr
    have same : Same (hid G O) (hid G' O) := tr.same.trans (hid_sub trs)
    have r1n : ∀ (i : Nat) (s : Sl), noMk s = false → (outD δ δ')[i]? ≠ some s := fun i s n z => by
      have hh : ∀ (i : Nat) (s : Sl), noMk s = false → δ[i]? ≠ some s := fun i s n z => by
        have := hnm i s z
        rw [n] at this; cases this
      unfold outD at z
      split at z
      · cases i with
        | zero => cases z; cases n
        | succ i => exact hh (i + 1) s n z
      · exact hh i s n z
    obtain ⟨r1, r2, r3⟩ := outp O' δ' σ' G' tr R' O (fun _ z => z) same (fun a z => R'.occ a (trs a z)) fun zs k1 a k2 => by
      obtain ⟨a', us, q1, _, q2, q3⟩ := R'.lst 0 zs k1
      rw [k2] at q1; cases q1
      exact ⟨us, q2, DpAll.up q3 (hid_sub trs)⟩
    exact ⟨⟨same, fun a oa no => tr.frame a oa (fun z => no (ownL a z)) (fun ⟨i, kvs, e1, _⟩ => (nomatch hnm i _ (atL i (.m kvs) (by intro z; cases z) e1).2)), r2, r3, fun i s n z => absurd z (r1n i s n)⟩, r1⟩
  refine ⟨R2, ⟨fun O' δ' σ' G' p tr R' => ?_, fun O' r δ' σ' v G' p tr R' kr => ?_, fun _ _ _ _ p => p.elim, fun _ _ _ _ p => p.elim⟩, ownL, fun a ⟨i, kvs, e1, _⟩ => (nomatch hnm i _ (atL i (.m kvs) (by intro z; cases z) e1).2)⟩
  · obtain ⟨s1, R1⟩ := done O' δ' σ' G' tr R'
    exact f _ _ _ _ p s1 R1 .non
  · obtain ⟨s1, R1⟩ := done O' δ' σ' G' tr R'
    cases r with
    | d y => exact f _ _ _ _ p s1 R1 (Dp.up kr (hid_sub (fsub _ _ _ _ tr)))
    | l zs =>
      obtain ⟨q, us, e1, n, e2, ha, hr⟩ := kr
      have sub : ∀ a, (O a ∨ a = q) → (O' a ∨ a = q) := fun a z => z.imp (fsub _ _ _ _ tr a) id
      refine f _ _ _ _ p s1 R1 ⟨q, us, e1, n, e2, DpAll.up ha (hid_sub sub), ?_⟩
      refine (outp O' δ' σ' G' tr R' (fun a => O a ∨ a = q) (fun _ z => .inl z) (same_hide s1.same n) (fun a z => hr.occ a (sub a z)) fun ws k1 a k2 => ?_).1
      obtain ⟨a', us', q1, _, q2, q3⟩ := hr.lst 0 ws k1
      rw [k2] at q1; cases q1
      exact ⟨us', q2, DpAll.up q3 (hid_sub sub)⟩
    | b i zs =>
      obtain ⟨ni, p⟩ := p
      obtain ⟨e1, e2⟩ := kr
      obtain ⟨a, us, q1, q2, q3, q4⟩ := R'.lst i zs e1
      rw [q1] at e2; cases e2
      have na : G a = none := by
        rcases tr.own a ⟨i, zs, e1, q1⟩ with z | z
        · obtain ⟨j, xs, z1, z2⟩ := (ownL a (.inl z)).resolve_right (fun ⟨j, o, q, _⟩ => nomatch hnm j _ q)
          have hj : j = 0 := h0 j xs z1
          subst hj
          have hl0 : 0 < δ.length := (List.getElem?_eq_some_iff.mp z1).1
          obtain ⟨⟨zs', k1⟩, k2⟩ := tr.keep xs a (by rw [get_app, if_pos hl0]; exact z1) (by rw [atR 0 hl0]; exact z2)
          exact absurd (R'.inj i 0 zs zs' a e1 k1 q1 k2) ni
        · exact z
      have sub : ∀ b, (O b ∨ b = a) → O' b := fun b z => z.elim (fsub _ _ _ _ tr b) fun w => by rw [w]; exact q2
      refine f _ _ _ _ p s1 R1 ⟨a, us, rfl, na, q3, DpAll.up q4 (hid_sub sub), ?_⟩
      refine (outp O' δ' σ' G' tr R' (fun b => O b ∨ b = a) (fun _ z => .inl z) (same_hide s1.same na) (fun b z => R'.occ b (sub b z)) fun ws k1 b k2 => ?_).1
      obtain ⟨a', us', w1, _, w2, w3⟩ := R'.lst 0 ws k1
      rw [k2] at w1; cases w1
      exact ⟨us', w2, DpAll.up w3 (hid_sub sub)⟩
theorem fnD {P : Program} {w : World} {K : PySem.W.Frag} {mg : Str → Option Value} {base : Heap} {x qual : Str} {st : Stmt} {f : Addr} {fd : FuncData} {N ps : List Str} {k : Nat} {S : WE} {wb : WS} (F : Fun K x qual st f fd) (Sc : FnScope N ps (defScope st)) (hN : ps.length ≤ N.length)
    (hS : ∀ δ P, S δ P → ArgOk ps.length δ ∧ wb (endsOf δ P) (δ ++ List.replicate (N.length - ps.length) Sl.un))
    (hbody : ∀ (cdv : Value) (A : Around) (outer : List Env) (s : Shared) (G : Hp) (E : XK), A.guards = some [] → Room k (A.deeper (envOfC qual (defScope st) s.heap.objs.size f cdv)) → DSs (cxOf CX0 P w K mg base N qual (defScope st) f cdv A outer s G E).nox (defBody st) wb) :
    FnG P w K mg base CX0 (k + 1) f fd ps (spOf K S) := by
  have len : ∀ ys G Q E, spOf K S ys G Q E → ys.length = ps.length := fun ys G Q E ⟨O, δ, P, R, hs, _⟩ => by
    have := R.len
    rw [List.length_map] at this
    rw [← this]
    exact (hS δ P hs).1.1
  refine fnG_of F Sc len fun cdv A outer s G ys Q E g0 room pr => ⟨_, hbody cdv A outer s G E g0 room, ?_⟩
  have ly := len _ _ _ _ pr
  obtain ⟨O, δ, Pd, R, hs, f⟩ := pr
  obtain ⟨ao, hw⟩ := hS δ Pd hs
  obtain ⟨R2, En, _⟩ := start_ok (N := N) ly R ao f
  exact ⟨O, _, _, R2, hw, En⟩
end Dw
namespace Dw
open PySem PySem.Spec PyProof.Rows L2
structure Bl (mg : Str → Option Value) : Prop where
  len : mg "len" = none
  range : mg "range" = none
  tuple : mg "tuple" = none
  list : mg "list" = none
  max : mg "max" = none
  min : mg "min" = none
  all : mg "all" = none
  any : mg "any" = none
  sorted : mg "sorted" = none
  repr : mg "repr" = none
  isinstance : mg "isinstance" = none
  int : mg "int" = none
  bool : mg "bool" = none
  str : mg "str" = none
  enumerate : mg "enumerate" = none
  zip : mg "zip" = none
  set : mg "set" = none
  dict : mg "dict" = none
structure Fn (P : Program) (w : World) (K : PySem.W.Frag) (mg : Str → Option Value) (base : Heap) (k : Nat) (x : Str) (S : WE) : Prop where
  ex : ∃ (a : Addr) (fd : FuncData) (ps : List Str), mg x = some (.ref a) ∧ PySem.W.keepIn K (.ref a) = true ∧ Binds K fd ps [] ∧ FnG P w K mg base CX0 k a fd ps (spOf K S)
theorem hu80 {k : Nat} {A : Around} (r : Room k A) : A.units + 80 < cLine := by have := r.un; omega
section
variable {X : Cx} {e : Expr} {es : List Expr} {ua : WA} {pos p : Pos} {x : Str} {k : Nat} {S : WE}
theorem de_callF (F : Fn X.prog X.w X.K X.mg X.base k x S) (g0 : X.A.guards = some []) (room : Room k X.A) (hg : Gl X x) (ha : DA X (e :: es) ua)
    (hdb : (x == ("__debug__" : Str)) = false := by decide) (he : starEach (e :: es) X.env = (false, eval e X.env) :: starEach es X.env := by rfl) (hpl : (backTo pos (starEach es X.env)).any (·.1) = false := by rfl) :
    DE X (.Call (.Name x p) (e :: es) [] pos) (wCall S ua) := by
  obtain ⟨a, fd, ps, h1, h2, h3, h4⟩ := F.ex
  exact de_call h4 g0 room hg h1 h2 h3 ha hdb he hpl
theorem de_callOF {y : Str} {py : Pos} (i : Nat) (F : Fn X.prog X.w X.K X.mg X.base k x S) (g0 : X.A.guards = some []) (room : Room k X.A) (hg : Gl X x) (ha : DA X es ua)
    (hN : X.N[i]? = some y := by rfl) (hv : Vis X.env.scope y := by first | exact Or.inl rfl | exact Or.inr (Or.inl rfl) | exact Or.inr (Or.inr rfl)) (hy : (y == ("__debug__" : Str)) = false := by decide) (hcd : (y == ("__classdict__" : Str)) = false := by decide)
    (hdb : (x == ("__debug__" : Str)) = false := by decide) (he : starEach (.Name y py :: es) X.env = (false, eval (.Name y py) X.env) :: starEach es X.env := by rfl) (hpl : (backTo pos (starEach es X.env)).any (·.1) = false := by rfl) :
    DE X (.Call (.Name x p) (.Name y py :: es) [] pos) (wCallO S i ua) := by
  obtain ⟨a, fd, ps, h1, h2, h3, h4⟩ := F.ex
  exact de_callO i h4 g0 room hg h1 h2 h3 ha hN hv hy hcd hdb he hpl
end
end Dw
namespace Dw
open PySem PySem.Spec PyProof.Rows L2
def DefIn (K : PySem.W.Frag) (x : Str) (st : Stmt) : Prop := ∃ (f : Addr) (oc : Value) (od : Option Addr) (kV dc pm : Value) (an : Option Addr) (cd ct : Value) (sl : Array (Option Value)),
  PySem.W.nsIn K mainGlobals x = some (some (.ref f)) ∧ K.lookup f = some ⟨oc, od, .func (PySem.W.fnOf x x (defArgs st) (defBody st) (defScope st) .none kV dc pm an cd ct), sl⟩ ∧ PySem.W.codeIn K cd x = true ∧ PySem.W.keepIn K (.ref f) = true
theorem def_in {K : PySem.W.Frag} {x : Str} {st : Stmt} {f : Addr} {oc : Value} {od : Option Addr} {kV dc pm : Value} {an : Option Addr} {cd ct : Value} {sl : Array (Option Value)} (a : PySem.W.nsIn K mainGlobals x = some (some (.ref f)))
    (l : K.lookup f = some ⟨oc, od, .func (PySem.W.fnOf x x (defArgs st) (defBody st) (defScope st) .none kV dc pm an cd ct), sl⟩) (c : PySem.W.codeIn K cd x = true) (k : PySem.W.keepIn K (.ref f) = true) : DefIn K x st := ⟨f, oc, od, kV, dc, pm, an, cd, ct, sl, a, l, c, k⟩
theorem fn_in {P : Program} {w : World} {K : PySem.W.Frag} {mg : Str → Option Value} {base h : Heap} {x : Str} {st : Stmt} {ps : List Str} {S : WE} {k : Nat} (X : K.In h) (G : h.Ns mainGlobals mg) (d : DefIn K x st)
    (hb : ∀ (kV doc pm : Value) (an : Option Addr) (cdv ct : Value) (us : List Value), us.length = ps.length → bindArgs (PySem.W.fnOf x x (defArgs st) (defBody st) (defScope st) .none kV doc pm an cdv ct) ⟨us, []⟩ = pure (ps.zip us))
    (ok : ∀ {f : Addr} {fd : FuncData}, Fun K x x st f fd → FnG P w K mg base CX0 k f fd ps (spOf K S)) : Fn P w K mg base k x S := by
  obtain ⟨f, oc, od, kV, dc, pm, an, cd, ct, sl, a, l, c, kp⟩ := d
  have F := fun_mk (st := st) l c kp
  exact ⟨f, _, ps, PySem.W.mg_of X G a, kp, F.binds hb, ok F⟩
end Dw
namespace Dw
open PySem PySem.Spec PyProof.Rows L2
theorem argD (ds : List PyData) : ArgOk ds.length (ds.map Sl.d) := by
  refine ⟨List.length_map _, fun i xs e => ?_, fun i s e => ?_⟩
  · rw [List.getElem?_map] at e
    cases q : ds[i]? with
    | none => rw [q] at e; cases e
    | some d => rw [q] at e; cases e
  · rw [List.getElem?_map] at e
    cases q : ds[i]? with
    | none => rw [q] at e; cases e
    | some d => rw [q] at e; cases e; rfl
theorem argO (xs : List PyData) (ds : List PyData) : ArgOk (ds.length + 1) (.o xs :: ds.map Sl.d) := by
  refine ⟨by simp, fun i ys e => ?_, fun i s e => ?_⟩
  · cases i with
    | zero => rfl
    | succ i =>
      have e : (ds.map Sl.d)[i]? = some (Sl.o ys) := e
      rw [List.getElem?_map] at e
      cases q : ds[i]? with
      | none => rw [q] at e; cases e
      | some d => rw [q] at e; cases e
  · cases i with
    | zero => cases e; rfl
    | succ i => exact (argD ds).2.2 i s e
section
variable {b b1 : WB} {t t1 : WT} {el : WE} {wi1 : WI} {vs vs1 : List Nat} {k : List PyData → Dl → Prop} {δ : Dl}
def Turn1 (b : WB) (t : WT) (el : WE) (vs : List Nat) (δ : Dl) (tx : PyData → Bool) (g : PyData → PyData) (x : PyData) : Prop :=
  ∀ (C : PyData → Dl → Prop) (C' : Dl → Prop), (tx x = true → C (g x) δ) → (tx x = false → C' δ) → b x δ fun δ1 => t δ1 fun c δ2 => if c = true then el δ2 fun y δ3 => noB y = true ∧ C y.as (wipeD δ3 vs) else C' (wipeD δ2 vs)
theorem go_pure (tx : PyData → Bool) (g : PyData → PyData) : ∀ (ds acc : List PyData), (∀ x ∈ ds, Turn1 b t el vs δ tx g x) → k (acc ++ (ds.filter tx).map g) δ → wGo b t el vs k ds acc δ
  | [], acc, _, h => by
    have h : k (acc ++ []) δ := h
    rw [List.append_nil] at h
    exact h
  | x :: r, acc, ht, h => by
    refine ht x List.mem_cons_self (fun y δ3 => wGo b t el vs k r (acc ++ [y]) δ3) (fun δ2 => wGo b t el vs k r acc δ2) (fun e => ?_) (fun e => ?_)
    · refine go_pure tx g r _ (fun z hz => ht z (List.mem_cons_of_mem _ hz)) ?_
      rw [List.filter_cons_of_pos e, List.map_cons] at h
      rw [List.append_assoc]
      exact h
    · refine go_pure tx g r _ (fun z hz => ht z (List.mem_cons_of_mem _ hz)) ?_
      rw [List.filter_cons_of_neg (by rw [e]; decide)] at h
      exact h
theorem go_inv (N : Nat) (I : Nat → List PyData → Dl → Prop) (turn : ∀ n x acc δ (C : List PyData → Dl → Prop), n < N → I n acc δ → (∀ acc' δ', I (n + 1) acc' δ' → C acc' δ') → b x δ fun δ1 => t δ1 fun c δ2 => if c = true then el δ2 fun y δ3 => noB y = true ∧ C (acc ++ [y.as]) (wipeD δ3 vs) else C acc (wipeD δ2 vs)) :
    ∀ (ds acc : List PyData) (δ : Dl) (n : Nat), n + ds.length = N → I n acc δ → (∀ acc δ, I N acc δ → k acc δ) → wGo b t el vs k ds acc δ
  | [], acc, δ, n, e, hi, h => h acc δ (by rw [← e]; exact hi)
  | x :: r, acc, δ, n, e, hi, h => by
    rw [List.length_cons] at e
    refine turn n x acc δ (fun acc' δ' => wGo b t el vs k r acc' δ') (by omega) hi fun acc' δ' hi' => ?_
    exact go_inv N I turn r acc' δ' (n + 1) (by omega) hi' h
end
theorem loop_inv {b : WB} {wb : WS} {P : DEnds} (I : Nat → Dl → Prop) (ds0 : List PyData) (turn : ∀ n x δ (C : Dl → Prop), ds0[n]? = some x → I n δ → (∀ δ', I (n + 1) δ' → C δ') → b x δ fun δ1 => wb { P with nx := C, ct := C, bk := P.nx } δ1) :
    ∀ (ds : List PyData) (δ : Dl) (n : Nat), ds = ds0.drop n → n ≤ ds0.length → I n δ → (∀ δ, I ds0.length δ → P.nx δ) → wLoop b wb P ds δ
  | [], δ, n, e, hn, hi, h => by
    have : ds0.length ≤ n := by
      have := congrArg List.length e
      rw [List.length_drop] at this
      simp at this
      omega
    have e2 : n = ds0.length := by omega
    rw [e2] at hi
    exact h δ hi
  | x :: r, δ, n, e, hn, hi, h => by
    have hlt : n < ds0.length := by
      have := congrArg List.length e
      rw [List.length_drop] at this
      simp at this
      omega
    rw [List.drop_eq_getElem_cons hlt] at e
    injection e with e1 e2
    refine turn n x δ (fun δ' => wLoop b wb P r δ') (by rw [e1]; exact List.getElem?_eq_getElem hlt) hi fun δ' hi' => ?_
    exact loop_inv I ds0 turn r δ' (n + 1) e2 hlt hi' h
theorem rangeD_eq (lo : Int) : ∀ n, rangeD lo n = (List.range n).map fun i => PyData.int (lo + (i : Nat)) := by
  intro n
  apply List.ext_getElem?
  intro i
  by_cases h : i < n
  · rw [List.getElem?_map, List.getElem?_range h, List.getElem?_eq_getElem (by rw [rangeD_len]; exact h)]
    exact congrArg some (rangeD_get (List.getElem?_eq_getElem _))
  · rw [List.getElem?_eq_none (by rw [rangeD_len]; omega), List.getElem?_eq_none (by simp; omega)]
theorem mem_range {lo : Int} {n : Nat} {x : PyData} (h : x ∈ rangeD lo n) : ∃ i : Nat, i < n ∧ x = .int (lo + i) := by
  rw [rangeD_eq] at h
  obtain ⟨i, hi, e⟩ := List.mem_map.mp h
  exact ⟨i, List.mem_range.mp hi, e.symm⟩
section
variable {x : PyData} {xs : List PyData} {i : Nat} {δ : Dl} {p : Prop} {k : Bool} {n : Int}
theorem as_d : (Rv.d x).as = x := rfl
theorem as_l : (Rv.l xs).as = .list xs := rfl
theorem as_b : (Rv.b i xs).as = .list xs := rfl
theorem noB_d : noB (.d x) = true := rfl
theorem noB_l : noB (.l xs) = true := rfl
theorem still_d : still (.d x) δ p = p := rfl
theorem still_l : still (.l xs) δ p = p := rfl
theorem still_b : still (.b i xs) δ p = (δ[i]? = some (Sl.o xs) ∧ p) := rfl
theorem put_d : putR δ i (.d x) = some (δ.set i (.d x)) := rfl
theorem put_l : putR δ i (.l xs) = some (δ.set i (.o xs)) := rfl
theorem tru_bool : truD (.bool k) = some k := rfl
theorem tru_tup : truD (.tuple xs) = some (!xs.isEmpty) := rfl
theorem tru_lst : truD (.list xs) = some (!xs.isEmpty) := rfl
theorem isT_tup : isTupD (.tuple xs) = some true := rfl
theorem isI_int : isIntD (.int n) = some true := rfl
theorem isB_int : isBoolD (.int n) = some false := rfl
theorem stillA_nil : stillAll [] δ p = p := rfl
theorem stillA_cons {r : Rv} {rs : List Rv} : stillAll (r :: rs) δ p = still r δ (stillAll rs δ p) := rfl
theorem map1 {α β : Type} {f : α → β} {a : α} : List.map f [a] = [f a] := rfl
theorem map2 {α β : Type} {f : α → β} {a b : α} : List.map f [a, b] = [f a, f b] := rfl
theorem map3 {α β : Type} {f : α → β} {a b c : α} : List.map f [a, b, c] = [f a, f b, f c] := rfl
theorem map0 {α β : Type} {f : α → β} : List.map f [] = [] := rfl
theorem len_l {P : Rv → Prop} : rLenD [.list xs] P = P (.d (.int xs.length)) := rfl
theorem len_t {P : Rv → Prop} : rLenD [.tuple xs] P = P (.d (.int xs.length)) := rfl
theorem tup_l {P : Rv → Prop} : rTupleD [.list xs] P = P (.d (.tuple xs)) := rfl
theorem tup_t {P : Rv → Prop} : rTupleD [.tuple xs] P = P (.d (.tuple xs)) := rfl
theorem lst_l {P : Rv → Prop} : rListD [.list xs] P = P (.l xs) := rfl
theorem lst_t {P : Rv → Prop} : rListD [.tuple xs] P = P (.l xs) := rfl
theorem max_i {a b : Int} {P : Rv → Prop} : rMax2D [.int a, .int b] P = P (.d (.int (if b > a then b else a))) := rfl
theorem min_i {a b : Int} {P : Rv → Prop} : rMin2D [.int a, .int b] P = P (.d (.int (if b < a then b else a))) := rfl
end
theorem law_start {K : PySem.W.Frag} {G : Hp} {a : Addr} {ns : List Int} {S : WE} {E : XK} (hS : S [.d (.list (ns.map PyData.int))] fun r _ => r = .d (.bool true)) (h : SqL K G a (ns.map V.int)) : spOf K S [.ref a] G (fun v _ => v = .bl true) E := by
  refine ⟨fun _ => False, _, _, ⟨rfl, fun i x e => ?_, fun i xs e => ?_, fun i j xs ys b e => ?_, fun _ z => z.elim, .none fun i s e => by cases i with | zero => cases e; rfl | succ i => simp at e⟩, hS, fun r δ' v H' p _ _ k => ?_⟩
  · cases i with
    | zero =>
      cases e
      have hs : SqL K (hid G fun _ => False) a (ns.map V.int) := sl_mono (fun b o e => by rw [hid_no (fun z => z)]; exact e) h
      exact ⟨.ref a, rfl, .lst hs (dp_ints ns)⟩
    | succ i => simp at e
  · cases i with
    | zero => cases e
    | succ i => simp at e
  · cases i with
    | zero => cases e
    | succ i => simp at e
  · subst p
    have k : Dp K (hid H' fun _ => False) v (.bool true) := k
    cases k
    rfl
end Dw
namespace Dw
open PySem PySem.Spec PyProof.Rows L2
section
variable {X : Cx} {st : Stmt} {e iter tg elt : Expr} {we el : WE} {w : WS} {wi : WI} {b : WB} {t : WT} {pos pos' spos py : Pos} {i : Nat} {x y : Str} {ifs : List Expr} {scope : Scope} {own : List (Str × Nat)} {js : List Nat}
def wSetD (i : Nat) (w : WE) : WS := fun P δ => w δ fun r δ1 => match r with
  | .d x => P.nx (δ1.set i (.d x))
  | .l xs => P.nx (δ1.set i (.d (.list xs)))
  | .b _ _ => False
theorem lift_setD (hi : i ≠ 0) {K : PySem.W.Frag} {D : Ends} {σ : L2.St} {H : Hp} (q : liftS K (wSetD i we) D σ H) : tAsg (lift K we) (gName i) D σ H := by
  obtain ⟨O, δ, P, R, w, E⟩ := q
  refine ⟨O, δ, _, R, w, fun r δ1 v H1 w1 s1 R1 k1 => ?_⟩
  cases r with
  | b j xs => exact w1.elim
  | d x => exact E.nx _ _ _ _ w1 (s1.tr.trans R R1 (bd_set.tr (by simpa using fun z => hi z.symm))) (rep_set R1 k1)
  | l xs => exact E.nx _ _ _ _ w1 (s1.tr.trans R R1 (bd_set.tr (by simpa using fun z => hi z.symm))) (rep_set R1 (rv_dp R k1 rfl))
theorem ds_setD (i : Nat) (hN : X.N.Nodup) (h : DE X e we) (h0 : i ≠ 0 := by decide) (hi : X.N[i]? = some x := by rfl) (hx : Loc X.env.scope x := by first | exact Or.inl rfl | exact Or.inr rfl) (hs : swapsWith e (some (.Name x pos')) pos.line X.env = pure false := by rfl)
    (hf : X.fn x = true ∨ X.env.scope.names.lookup x = some .local := by first | exact .inl rfl | exact .inr rfl) : DS X (.Assign [.Name x pos'] e pos) (wSetD i we) :=
  ps_weak (ps_set hN hi hx h hs hf) fun _ _ _ => lift_setD h0
theorem ds_setLcD (i : Nat) (hc : X.calm = true) (hN : X.N.Nodup) (hi : DI X tg iter wi) (ok : BlkOk X.N X.env.scope scope own)
    (hg : ∀ (s : Shared) (H : Hp) (C : Addr) (cl : List (Str × Addr)) (fp : List Addr), DG (X.blk s H scope (compEnvC scope cl C X.env) fp) tg js b) (ht : ∀ (s : Shared) (H : Hp) (C : Addr) (cl : List (Str × Addr)) (fp : List Addr), DTs (X.blk s H scope (compEnvC scope cl C X.env) fp) ifs t)
    (he : ∀ (s : Shared) (H : Hp) (C : Addr) (cl : List (Str × Addr)) (fp : List Addr), DE (X.blk s H scope (compEnvC scope cl C X.env) fp) elt el) (h0 : i ≠ 0 := by decide) (hy : X.N[i]? = some y := by rfl) (hyl : X.env.scope.names.lookup y = some .local := by rfl)
    (hsw : swapsWith (.ListComp elt [⟨tg, iter, ifs, 0⟩] scope pos) (some (.Name y py)) spos.line X.env = pure true := by exact sw_true rfl rfl rfl (by decide +kernel)) (hjs : ∀ j ∈ js, j ∈ own.map (·.2) := by decide) (hs : ∀ x, foldedSetIterable iter X.env x = pure x := by intro _; rfl) :
    DS X (.Assign [.Name y py] (.ListComp elt [⟨tg, iter, ifs, 0⟩] scope pos) spos) (wSetD i (wLc wi b t el (own.map (·.2)))) :=
  ps_weak (ps_setLc (wi := liftI X.K wi) (g := liftG X.K js b) (tt := liftT X.K t) (te := lift X.K el) hc hN hy hyl hsw hi ok hg ht he hs) fun D σ H q => lift_lc hjs (lift_setD h0 q)
def wForget (vs : List Nat) (w : WS) : WS := fun P δ => w P (wipeD δ vs)
end
section
variable {X : Cx} {a b : Expr} {wa wb : WE} {pos : Pos}
def rCatTD : R2D := fun d e P => match d, e with
  | .tuple xs, .tuple ys => xs.length + ys.length < 100000 ∧ P (.d (.tuple (xs ++ ys)))
  | _, _ => False
def rCatL (K : PySem.W.Frag) : R2 := fun x y H Q => ∃ l b xs zs, x = .ref l ∧ y = .ref b ∧ SqL K H l xs ∧ SqL K H b zs ∧ xs.length + zs.length ≤ sizeLine ∧ ∀ p, H p = none → Q (.ref p) (upd H p (.lst (xs ++ zs)))
theorem op_catL : OpR X (binaryOp .Add) (rCatL X.K) := by
  intro pins s σ H x y v u Q I rx ry h
  obtain ⟨l, b, xs, zs, rfl, rfl, hH, hB, hz, q⟩ := h
  cases rx
  cases ry
  obtain ⟨its, r, ⟨⟨c1, d1, t1, s1⟩, n, ho, hc, hdn, hd⟩, hl⟩ := I.list hH
  obtain ⟨its2, r2, ⟨⟨c2, d2, t2, s2⟩, n2, ho2, hc2, hdn2, hd2⟩, hl2⟩ := I.list hB
  simp only at hc hd hc2 hd2
  subst hc hd hc2 hd2
  have ea : its.toArray ++ its2.toArray = (its ++ its2).toArray := by simp
  have z1 := r.length
  have z2 := r2.length
  refine concat_meets ⟨_, ho, rfl⟩ ⟨_, ho2, rfl⟩ noFill_list_add seq_list_add PySem.F.slot_list_add PySem.F.entry_list_add (PySem.F.args_list_add_2 _ _) (list_addW l b its.toArray its2.toArray n n2 d1 d2 s1 s2 (by rw [List.size_toArray, List.size_toArray]; omega)) ⟨ho, ho2, ?_⟩
  rw [ea]
  exact ⟨.ref _, _, I.lnew (t' := s.toks) (r.append r2) (by rw [List.length_append]; omega), rfl, q _ I.fresh⟩
def rCatLD : R2D := fun d e P => match d, e with
  | .list xs, .list ys => xs.length + ys.length < 100000 ∧ P (.l (xs ++ ys))
  | _, _ => False
theorem de_catL (ha : DE X a wa) (hb : DE X b wb) : DE X (.BinOp a .Add b pos) (w2 rCatLD wa wb) := de_op op_catL (by
  intro G H x y d e P Q hx hy s r f
  unfold rCatLD at r
  split at r
  · obtain ⟨p, vs, rfl, h1, h2⟩ := hx.lst s
    obtain ⟨q, us, rfl, h3, h4⟩ := hy.lst s
    exact ⟨p, q, vs, us, rfl, rfl, h1, h3, Nat.le_of_lt (small5 (by rw [da_len h2, da_len h4]; exact r.1)), fun l hl => f.2.1 _ _ l r.2 (da_app h2 h4) hl⟩
  · exact r.elim) ha hb
end
end Dw
namespace Dw
open PySem PySem.Spec PyProof.Rows L2
section
variable {X : Cx} {e : Expr} {we : WE} {pos p apos cpos : Pos} {y : Str}
def idxD (ys : List PyData) (x : PyData) : Option Nat := ys.findIdx? fun z => PyData.eqv z x
def wIdx1 (P : Rv → Dl → Prop) (ys : List PyData) (r : Rv) (δ1 : Dl) : Prop := match r with
  | .d x => (flat x = true ∧ ys.all flat = true) ∧ match idxD ys x with
    | some j => P (.d (.int j)) δ1
    | none => False
  | _ => False
def wIdx (i : Nat) (w : WE) : WE := fun δ P => match δ[i]? with
  | some (.d (.list ys)) => w δ fun r δ1 => wIdx1 P ys r δ1
  | _ => False
theorem de_index (i : Nat) (he : DE X e we) (hN : X.N[i]? = some y := by rfl) (hv : Vis X.env.scope y := by first | exact Or.inl rfl | exact Or.inr (Or.inl rfl) | exact Or.inr (Or.inr rfl)) (hy : (y == ("__debug__" : Str)) = false := by decide) (hcd : (y == ("__classdict__" : Str)) = false := by decide)
    (hbase : attributeBase (.Name y p) "index" X.env (eval (.Name y p) X.env) = eval (.Name y p) X.env := by rfl)
    (hfew : ((backTo cpos (starEach [e] X.env)).all (fun x => !x.1) && (backToKw cpos (keywordEach [] X.env)).all (fun x => x.1.isSome) && decide ([e].length + ([] : List Keyword).length + (if ([] : List Keyword).isEmpty then 0 else 1) < 30)) = true := by rfl)
    (hline : (apos.endLine == cpos.line) = true := by rfl) (hs : starEach [e] X.env = (false, eval e X.env) :: starEach [] X.env := by rfl) :
    DE X (.Call (.Attribute (.Name y p) "index" apos) [e] [] cpos) (wIdx i we) := by
  refine pe_weak (pe_bm PySem.F.plainAttrs_list PySem.F.slot_list_index PySem.F.type_list_index mt_index (pe_var hN hv hy hcd) (pa_cons he pa_nil hs) hbase hfew hline hs) fun σ H Q ⟨O, δ, P, R0, w, f⟩ => ?_
  unfold wIdx at w
  split at w
  · rename_i ys e0
    obtain ⟨v0, ea, d0⟩ := R0.dat i _ e0
    cases d0 with
    | lst hq ha =>
      rename_i a us
      refine ⟨.ref a, ea, .inl ⟨rfl, us, sl_mono hid_le hq⟩, O, δ, _, R0, w, fun r δ1 v H1 w1 s1 R1 k1 => ?_⟩
      unfold wIdx1 at w1
      split at w1
      · rename_i x
        obtain ⟨⟨f1, f2⟩, w1⟩ := w1
        split at w1
        · rename_i j ej
          have dx : Dp X.K (hid H1 O) v x := k1
          have ha1 := DpAll.up ha s1.same
          obtain ⟨hj, ez, hlt⟩ := List.findIdx?_eq_some_iff_getElem.mp ej
          obtain ⟨vz, g1, g2⟩ := da_get ha1 (List.getElem?_eq_getElem hj)
          have fz : flat ys[j] = true := List.all_eq_true.mp f2 _ (List.getElem_mem hj)
          refine ⟨a, us, v, j, vz, rfl, rfl, sl_mono (s1.same.trans hid_le) hq, dp_flat dx f1, da_flat ha1 f2, g1, ?_, fun m z' hm ez' => ?_, f _ _ _ _ w1 s1 R1 (.int _)⟩
          · rw [dp_eqv g2 dx fz f1]; exact ez
          · obtain ⟨dz, q1, q2⟩ := da_getV ha1 ez'
            obtain ⟨hm2, q1⟩ := List.getElem?_eq_some_iff.mp q1
            rw [dp_eqv q2 dx (by rw [← q1]; exact List.all_eq_true.mp f2 _ (List.getElem_mem hm2)) f1]
            have := hlt m hm
            rw [q1] at this
            simpa using this
        · exact w1.elim
      · exact w1.elim
  · exact w.elim
def wExtL1 (i : Nat) (P : Rv → Dl → Prop) (r : Rv) (δ1 : Dl) : Prop := match δ1[i]?, r with
  | some (.o xs), .l ys => xs.length + ys.length < 100000 ∧ P (.d .none) (δ1.set i (.o (xs ++ ys)))
  | _, _ => False
def wExtL (i : Nat) (w : WE) : WE := fun δ P => match δ[i]? with
  | some (.o _) => w δ fun r δ1 => wExtL1 i P r δ1
  | _ => False
end
def getM (kvs : List (List Int × PyData)) (ks : List Int) : Option PyData := (kvs.find? fun kv => decide (kv.1 = ks)).map (·.2)
def putM (kvs : List (List Int × PyData)) (ks : List Int) (v : PyData) : List (List Int × PyData) :=
  if (kvs.any fun kv => decide (kv.1 = ks)) = true then kvs.map (fun kv => if kv.1 = ks then (kv.1, v) else kv) else kvs ++ [(ks, v)]
section
variable {K : PySem.W.Frag} {G : Hp} {ks : List Int}
end
section
variable {X : Cx} {a b c : Expr} {wa wc : WE} {ua : WA} {es : List Expr} {pos p p2 px py pz pt pt2 pos' : Pos} {x y z : Str} {kt k2 : Nat}
def wLenM (i : Nat) : WE := fun δ P => match δ[i]? with
  | some (.m kvs) => P (.d (.int kvs.length)) δ
  | _ => False
def wNotInM (ik id : Nat) : WT := fun δ P => match δ[ik]?, δ[id]? with
  | some (.k ks), some (.m kvs) => P (!(getM kvs ks).isSome) δ
  | _, _ => False
def wGetM (id ik : Nat) : WE := fun δ P => match δ[ik]?, δ[id]? with
  | some (.k ks), some (.m kvs) => match getM kvs ks with
    | some z => P (.d z) δ
    | none => False
  | _, _ => False
def wPutM1 (id ik : Nat) (P : DEnds) (r : Rv) (δ1 : Dl) : Prop := match δ1[ik]?, δ1[id]?, r with
  | some (.k ks), some (.m kvs), .d x => kvs.length < 100000 ∧ P.nx (δ1.set id (.m (putM kvs ks x)))
  | _, _, _ => False
def wPutM (id ik : Nat) (w : WE) : WS := fun P δ => w δ fun r δ1 => wPutM1 id ik P r δ1
def intsR : List Rv → Option (List Int)
  | [] => some []
  | .d (.int i) :: r => (intsR r).map (i :: ·)
  | _ :: _ => none
def wSetK (i : Nat) (u : WA) : WS := fun P δ => u δ fun rs δ1 => match intsR rs with
  | some ks => ks.length ≤ 1000 ∧ P.nx (δ1.set i (.k ks))
  | none => False
theorem set_ways {δ : Dl} {i j : Nat} {s s' : Sl} (e : (δ.set j s)[i]? = some s') : (j = i ∧ j < δ.length ∧ s' = s) ∨ (j ≠ i ∧ δ[i]? = some s') := by
  rw [get_set] at e
  by_cases h : j = i
  · rw [if_pos h] at e
    split at e
    · cases e; exact .inl ⟨h, by assumption, rfl⟩
    · cases e
  · rw [if_neg h] at e; exact .inr ⟨h, e⟩
section
variable {K : PySem.W.Frag} {O : Addr → Prop} {δ : Dl} {σ : L2.St} {H : Hp} {j : Nat} {l : Addr}
end
def wTri (i j l : Nat) (wa wc : WE) : WS := fun P δ => wa δ fun r δ1 => noB r = true ∧ wc δ1 fun s δ2 => noB s = true ∧ match putR δ2 i r with
  | some δ3 => match putR (δ3.set j (.m [])) l s with
    | some δ4 => P.nx δ4
    | none => False
  | none => False
end
end Dw
namespace Dw
open PySem PySem.Spec PyProof.Rows L2
abbrev noSet (w : World) : Obj := { cls := .type "set", dict := none, data := .set #[] 0 (.fresh 0 0 (!w.params.followText "set-order")) }
section
variable {P : Program} {w : World} {A : Around} {E : Value → Shared → Prop} {s : Shared}
theorem set_ints {x : Addr} {vs : Array Value} (ms : List Int) {Q : Value → Shared → Prop} (calm : A.handled = none) (isl : s.heap.IsList x vs) (inn : IntsAre vs.toList ms) (few : ms.length + 1 < scanBound)
    (fin : ∀ (k : Heap) (u c : Nat), SetR w k s.heap.objs.size (fun j => decide (j ∈ ms)) c → c ≤ ms.length → (∀ b o, s.heap.get? b = some o → k.get? b = some o) → Q (.ref s.heap.objs.size) { s with heap := k, toks := u }) :
    wpAny (model P w) A (call (.type "set") [.ref x]) Q E s := by
  have sz : vs.size = ms.length := by
    have z := IntsAre.length inn
    rwa [Array.length_toList] at z
  obtain ⟨cc, tt, mro⟩ := F.called_set.mro
  have made := F.called_set.made
  have isub := F.called_set.sub
  refine wpAny_call (codeAny_of_tree ?_)
  show wpAny _ _ (callAny (.type "set") _) _ _ _
  refine wpAny_pure ⟨Code.quiet_builtin _ (by decide +kernel), ?_⟩
  refine codeAny_builtin F.entry_type_call ?_
  rw [Around.under_plain (weight_type_call_type "set" [.ref x] []) rfl]
  have f1 := F.called_set.notType
  have f2 := F.called_set.canCreate
  have f3 := F.typeCall_set_1 (.ref x)
  repeat (any_goals (first | assumption | wp_step))
  refine codeAny_mono (code_set_led1 (.ref x) (E := E) (Q₁ := fun ob s1 => ob = .ref s.heap.objs.size ∧ s1 = { s with heap := s.heap.push (noSet w) }) ⟨rfl, rfl⟩) fun res s1 hres => ?_
  cases res with
  | error e => exact hres
  | ok fl =>
    cases fl with
    | ret ob =>
      obtain ⟨rfl, rfl⟩ := hres
      have at0 : (s.heap.push (noSet w)).get? s.heap.objs.size = some (noSet w) := Heap.get?_push_size _ rfl
      have ty0 : Shared.TypeIs { s with heap := s.heap.push (noSet w) } (.ref s.heap.objs.size) "set" := ⟨_, at0, rfl⟩
      have i1 := F.called_set.init.lookup
      have i2 := F.called_set.init.bind (.ref s.heap.objs.size)
      repeat (any_goals (first | assumption | wp_step))
      refine codeAny_mono (codeAny_call_builtin (R := wants (fun r s2 => r = .none ∧ ∃ k u c, s2 = { s with heap := k, toks := u } ∧ SetR w k s.heap.objs.size (fun j => decide (j ∈ ms)) c ∧ c ≤ ms.length ∧ (∀ b o, s.heap.get? b = some o → k.get? b = some o)) E)
        F.called_set.init.plain F.entry_set_init (check_set_init_1 ty0 ?_)) fun r2 s2 hr2 => ?_
      · obtain ⟨lo, lat, lc, ln, ld⟩ := isl
        obtain ⟨c1, d1, dt1, sl1⟩ := lo
        simp only at lc ld
        subst lc ld
        have lat' : (s.heap.push (noSet w)).get? x = some { cls := .type "list", dict := d1, data := .seq vs ln, slots := sl1 } := Heap.get?_push_of_some _ lat
        have n1 := F.sub_list_set
        have n2 := F.sub_list_frozenset
        have n3 : (Value.type "list" == Value.type "dict") = false := by decide
        have isl1 : (s.heap.push (noSet w)).IsList x vs := ⟨_, lat', rfl, ln, rfl⟩
        unfold Builtin.«set.__init__» noKeywords Builtin.Frozenset.updateFrom
        generalize ePI : pyIter = walker
        wp_walk
        subst ePI
        refine wpAny_pyIter_list isl1 ?_
        refine wpAny_bind (wpAny_runValue ?_)
        have xlt : x < s.heap.objs.size := Heap.lt_size lat
        have calm3 : A.in1.in1.in1.handled = none := by simp [calm]
        have xne : x ≠ (s.heap.push (noSet w)).objs.size := by
          rw [Heap.size_push]
          exact Nat.ne_of_lt (Nat.lt_succ_of_lt xlt)
        have sout : s.heap.objs.size ∉ [(s.heap.push (noSet w)).objs.size, x] := by
          rw [Heap.size_push]
          simp only [List.mem_cons, List.not_mem_nil, or_false, not_or]
          exact ⟨Nat.ne_of_lt (Nat.lt_succ_self _), Nat.ne_of_gt xlt⟩
        have item : ∀ (i : Nat) (v : Value), vs[i]? = some v → ∃ k t, ms[i]? = some k ∧ v = .int k t := fun i v hv => by
          have lt : i < ms.length := by rw [← sz]; exact (Array.getElem?_eq_some_iff.mp hv).1
          obtain ⟨t, e⟩ := IntsAre.int_at inn i v (by rw [Array.getElem?_toList]; exact hv)
          refine ⟨ms[i], t, List.getElem?_eq_getElem lt, ?_⟩
          rw [e, List.getD_eq_getElem?_getD, List.getElem?_eq_getElem lt] <;> rfl
        refine set_update_ints ((Walks.list calm3 _ x xne vs).toS) s.heap.objs.size sout ms sz few item (vs.size - 0) 0 _ (by omega) (Nat.zero_le _) ⟨⟨_, Heap.get?_push_size _ rfl, rfl, rfl⟩, (isl1.push _)⟩ ?new ?done
        case new =>
          have here : ((s.heap.push (noSet w)).push { cls := .type "list_iterator", data := .fields #[.ref x, .int 0 0] }).get? s.heap.objs.size = some (noSet w) := Heap.get?_push_of_some _ at0
          exact ⟨0, Nat.le_refl 0, setR_new_at here⟩
        case done =>
          intro s3 c3 mv lc3 set3
          obtain ⟨k3, g3, d3, t3, o3⟩ := s3
          have e1 : g3 = s.gens := mv.gens
          have e2 : d3 = s.drawn := mv.drawn
          have e3 : o3 = s.os := mv.os
          subst e1 e2 e3
          show wpAny _ _ _ _ _ _
          refine wpAny_pure ?_
          show wpAny _ _ (ret Value.none) _ _ _
          rw [sz] at lc3
          refine wpAny_pure ⟨rfl, k3, t3, c3, rfl, set3, lc3, fun b o e => ?_⟩
          have lt : b < s.heap.objs.size := Heap.lt_size e
          refine mv.heap b o ?_ (Heap.get?_push_of_some _ (Heap.get?_push_of_some _ e))
          simp only [List.mem_cons, List.not_mem_nil, or_false, not_or]
          rw [Heap.size_push]
          exact ⟨Nat.ne_of_lt lt, Nat.ne_of_lt (Nat.lt_succ_of_lt lt)⟩
      · cases r2 with
        | error e => exact hr2
        | ok fl2 =>
          cases fl2 with
          | ret r =>
            obtain ⟨rfl, k, u, c, rfl, y1, y2, y3⟩ := hr2
            repeat (any_goals (first | assumption | wp_step))
            exact fin _ _ _ y1 y2 y3
          | _ => exact hr2.elim
    | _ => exact hres.elim
end
section
variable {X : Cx} {a : Expr} {ta : TE} {wa : WE} {p p2 q pos : Pos}
def wSortSet (w : WE) : WE := fun δ P => w δ fun r δ1 => match r with
  | .d (.list ds) => match intsD ds with
    | some ns => ns.length < 60 ∧ ∀ ms : List Int, ms.Pairwise (· < ·) → (∀ k : Int, k ∈ ms ↔ k ∈ ns) → P (.l (ms.map PyData.int)) δ1
    | none => False
  | _ => False
end
end Dw
namespace Dw
open PySem PySem.Spec PyProof.Rows L2
def lookI {κ : Type} [DecidableEq κ] (kvs : List (κ × Int)) (k : κ) : Option Int := (kvs.find? fun p => decide (p.1 = k)).map (·.2)
def putI {κ : Type} [DecidableEq κ] (kvs : List (κ × Int)) (k : κ) (v : Int) : List (κ × Int) := if (kvs.any fun p => decide (p.1 = k)) = true then kvs.map (fun p => if p.1 = k then (p.1, v) else p) else kvs ++ [(k, v)]
def optD : Option Int → PyData
  | some v => .int v
  | none => .none
section
variable {K : PySem.W.Frag} {O : Addr → Prop} {δ δ0 δ1 δ2 : Dl} {σ σ0 : L2.St} {H H0 H1 H2 : Hp} {D : Addr} {vs js : List Nat} {o : HO}
end
def wGoD (b : WB) (t : WT) (wk wv : WE) (vs : List Nat) (k : List (Int × Int) → Dl → Prop) : List PyData → List (Int × Int) → Dl → Prop
  | [], acc, δ => k acc δ
  | x :: r, acc, δ => b x δ fun δ1 => t δ1 fun c δ2 => if c = true then wk δ2 fun y δ3 => wv δ3 fun z δ4 => (match y, z with
    | .d (.int i), .d (.int j) => wGoD b t wk wv vs k r (putI acc i j) (wipeD δ4 vs)
    | _, _ => False) else wGoD b t wk wv vs k r acc (wipeD δ2 vs)
def wDc (wi : WI) (b : WB) (t : WT) (wk wv : WE) (vs : List Nat) : WE := fun δ P => wi δ fun ds δ1 => (ds.length ≤ 10000 ∧ unAll δ1 vs = true) ∧ wGoD b t wk wv vs (fun acc δ' => P (.d (dkD acc)) δ') ds [] δ1
section
variable {X : Cx} {tg iter e kx vx : Expr} {wk wv we wo : WE} {wi : WI} {pos p : Pos} {ifs : List Expr} {scope : Scope} {own : List (Str × Nat)} {js : List Nat} {b : WB} {t : WT}
def wGet1 (wo we : WE) : WE := fun δ P => wo δ fun r δ1 => ∃ kvs, r = .d (dkD kvs) ∧ we δ1 fun s δ2 => ∃ k, s = .d (.int k) ∧ P (.d (optD (lookI kvs k))) δ2
def wGet2 (wo we wx : WE) : WE := fun δ P => wo δ fun r δ1 => ∃ kvs, r = .d (dtD kvs) ∧ we δ1 fun s δ2 => ∃ ks : List Int, s = .d (.tuple (ks.map PyData.int)) ∧ wx δ2 fun u δ3 => ∃ x, u = .d x ∧ P (.d (match lookI kvs ks with | some v => .int v | none => x)) δ3
def wGetT (wo we : WE) : WE := fun δ P => wo δ fun r δ1 => we δ1 fun s δ2 => ∃ (kvs : List (List Int × Int)) (ks : List Int) (v : Int), r = .d (dtD kvs) ∧ s = .d (.tuple (ks.map PyData.int)) ∧ lookI kvs ks = some v ∧ P (.d (.int v)) δ2
end
end Dw
namespace Dw
open PySem PySem.Spec PyProof.Rows L2
abbrev PXn := Str → Prop
abbrev WEX := Dl → (Rv → Dl → Prop) → PXn → Prop
abbrev WAX := Dl → (List Rv → Dl → Prop) → PXn → Prop
abbrev WSX := DEnds → PXn → Dl → Prop
structure XS (O : Addr → Prop) (δ : Dl) (σ : L2.St) (H H' : Hp) : Prop where
  same : Same (hid H O) (hid H' O)
  frame : ∀ a, O a → ¬ Own δ σ a → ¬ OwnM δ σ a → H' a = H a
section
variable {K : PySem.W.Frag} {O O1 : Addr → Prop} {δ δ1 : Dl} {σ σ1 : L2.St} {H H1 H2 : Hp}
theorem XS.refl : XS O δ σ H H := ⟨Same.refl _, fun _ _ _ _ => rfl⟩
theorem XS.after (R : Rep K O δ σ H) (R1 : Rep K O1 δ1 σ1 H1) (a : Tr O O1 δ δ1 σ σ1 H H1) (b : XS O1 δ1 σ1 H1 H2) : XS O δ σ H H2 := by
  refine ⟨fun c o e => ?_, fun c oc n m => ?_⟩
  · have e1 := hid_some e
    rw [hid_no e1.1]; exact (hid_some (b.same c o (a.same c o e))).2
  have occ : H c ≠ none := fun z => by
    obtain ⟨o, e⟩ := R.occ c oc
    rw [z] at e; cases e
  have o1 : O1 c := (a.sub c oc).elim id fun ⟨⟨i, xs, _, e1, e2⟩, _⟩ => absurd (.inl ⟨i, xs, e1, e2⟩) n
  rw [b.frame c o1 (fun z => (a.ownI z).elim n occ) (fun z => (a.ownM c z).elim m occ)]
  exact a.frame c oc n m
end
def ObX (mg : Str → Option Value) (W : WX) (O : Addr → Prop) (δ : Dl) (σ σw : L2.St) (H : Hp) (PX : PXn) : Prop := ∀ n cls H', PX n → mg n = some cls → XS O δ σ H H' → W cls none σw H'
def liftX (K : PySem.W.Frag) (mg : Str → Option Value) (W : WX) (w : WEX) : TE := fun σ H Q => ∃ O δ P PX, Rep K O δ σ H ∧ w δ P PX ∧ (∀ r δ' v H', P r δ' → Stp O δ δ' σ H H' → Rep K O δ' σ H' → RvOk K O σ δ' H H' v r → Q v H') ∧ ObX mg W O δ σ σ H PX
def liftAX (K : PySem.W.Frag) (mg : Str → Option Value) (W : WX) (w : WAX) : TA := fun σ H Q => ∃ O δ P PX, Rep K O δ σ H ∧ w δ P PX ∧ (∀ rs δ' vs H', P rs δ' → Stp O δ δ' σ H H' → Rep K O δ' σ H' → RvsOk K O σ δ' H H' vs rs → Q vs H') ∧ ObX mg W O δ σ σ H PX
def DEX (X : Cx) (W : WX) (e : Expr) (w : WEX) : Prop := PE X e (liftX X.K X.mg W w)
def DAX (X : Cx) (W : WX) (es : List Expr) (w : WAX) : Prop := PA X es (liftAX X.K X.mg W w)
theorem ObX.after {K : PySem.W.Frag} {mg : Str → Option Value} {W : WX} {O : Addr → Prop} {δ δ1 : Dl} {σ σw : L2.St} {H H1 : Hp} {PX : PXn} (b : ObX mg W O δ σ σw H PX) (R : Rep K O δ σ H) (R1 : Rep K O δ1 σ H1) (s : Stp O δ δ1 σ H H1) : ObX mg W O δ1 σ σw H1 PX :=
  fun n cls H' p m x => b n cls H' p m (XS.after R R1 s.tr x)
section
variable {X : Cx} {W : WX} {e : Expr} {es : List Expr} {w we : WE} {wx : WEX} {ua : WA} {ux : WAX} {pos p : Pos} {x : Str}
def wPu (w : WE) : WEX := fun δ P _ => w δ P
def uPu (u : WA) : WAX := fun δ P _ => u δ P
theorem dax_pure (h : DA X es ua) : DAX X W es (uPu ua) := pa_weak h fun σ H Q ⟨O, δ, P, PX, R, w, f, _⟩ => ⟨O, δ, P, R, w, f⟩
def uConsX (w : WEX) (u : WAX) : WAX := fun δ P PX => w δ (fun r δ1 => u δ1 (fun rs δ2 => P (r :: rs) δ2) PX) PX
def spX (K : PySem.W.Frag) (mg : Str → Option Value) (S : WEX) : Sp := fun vs H Q E => liftX K mg (fun cls d _ H' => E cls d H') S (vs.map some) H Q
theorem runGS {pins : List (Addr × Obj)} {CX : CXT} {k : Nat} {f : Addr} {fd : FuncData} {ps : List Str} {sp : Sp} {E : XK} {σ : L2.St} {G : Hp} {s : Shared} {Q : VK} {us : List Value} {ys : List V} (F : FnG X.prog X.w X.K X.mg X.base CX k f fd ps sp) (g0 : X.A.guards = some []) (room : Room k X.A) (hb : Binds X.K fd ps []) (hx : PassesAt CX X σ E)
    (I : Inv X pins σ G s) (r : Vals ys us) (q : sp ys G Q E) : wpAny (model X.prog X.w) X.A (call (.ref f) us) (EP X pins σ Q) X.xe s := by
  have hl : (us ++ []).length = ps.length := by rw [List.append_nil, ← r.length]; exact F.len _ _ _ _ q
  have bt := hb s us I.kIn hl
  rw [List.append_nil] at bt
  refine wpAny_call (codeAny_mono (F.run X.A X.stack s G ⟨us, []⟩ us ys Q E g0 room I.env0 bt r q) fun res s' hq => ?_)
  cases res with
  | error er => exact hx pins G s er s' I hq
  | ok fl => cases fl <;> first | exact I.after hq | exact False.elim hq
theorem pe_callGS {CX : CXT} {k : Nat} {f : Addr} {fd : FuncData} {ps : List Str} {sp : Sp} {E : L2.St → XK} {t : TA} (F : FnG X.prog X.w X.K X.mg X.base CX k f fd ps sp) (g0 : X.A.guards = some []) (room : Room k X.A) (hg : Gl X x) (hm : X.mg x = some (.ref f)) (hk : PySem.W.keepIn X.K (.ref f) = true) (hb : Binds X.K fd ps []) (hx : ∀ σ, PassesAt CX X σ (E σ))
    (ha : PA X (e :: es) t) (hdb : (x == ("__debug__" : Str)) = false := by decide) (he : starEach (e :: es) X.env = (false, eval e X.env) :: starEach es X.env := by rfl) (hpl : (backTo pos (starEach es X.env)).any (·.1) = false := by rfl) :
    PE X (.Call (.Name x p) (e :: es) [] pos) (fun σ G Q => t σ G fun ys G1 => sp ys G1 Q (E σ)) := by
  refine ⟨fun pins s σ G Q I q => wpAny_Call_Name_kw (ld_glob I hg hm ?_ hdb)⟩
  exact PySem.W.callWith_K (h₀ := X.base) I.ok.mod.kin hk (thn (ha.run pos pins s σ G _ I q) fun us s1 ⟨ys, G1, I1, r, q1⟩ => ⟨I1.kIn, runGS F g0 room hb (hx σ) I1 r q1⟩) he hpl
structure FnX (P : Program) (w : World) (K : PySem.W.Frag) (mg : Str → Option Value) (base : Heap) (k : Nat) (x : Str) (S : WEX) : Prop where
  ex : ∃ (a : Addr) (fd : FuncData) (ps : List Str), mg x = some (.ref a) ∧ PySem.W.keepIn K (.ref a) = true ∧ Binds K fd ps [] ∧ FnG P w K mg base (L2.CX P w) k a fd ps (spX K mg S)
theorem call_back {K : PySem.W.Frag} {O : Addr → Prop} {δ δ1 δ' : Dl} {σ : L2.St} {H H1 H' : Hp} {rs : List Rv} {vs : List V} {v : V} {r : Rv} {P : Rv → Dl → Prop} {Q : VK} (R0 : Rep K O δ σ H) (s1 : Stp O δ δ1 σ H H1) (R1 : Rep K O δ1 σ H1)
    (g : ∀ r δ' v H', P r δ' → Stp O δ δ' σ H H' → Rep K O δ' σ H' → RvOk K O σ δ' H H' v r → Q v H') (w2 : match r with | .b _ _ => False | _ => P r δ1)
    (s2 : Stp O (rs.map fun r => Sl.d r.as) δ' (vs.map some) H1 H') (k2 : RvOk K O (vs.map some) δ' H1 H' v r) : Q v H' := by
  have fr : ∀ a, O a → H' a = H1 a := fun a z => s2.frame a z (by
    have := no_own (ds := rs.map Rv.as) (σ := vs.map some) (a := a)
    rw [List.map_map] at this
    exact this)
  have st : Stp O δ1 δ1 σ H1 H' := ⟨s2.same, fun a z _ => fr a z, fun _ => Iff.rfl, fun _ _ => Iff.rfl, dct_refl⟩
  cases r with
  | b i xs => exact w2.elim
  | d x => exact g _ _ _ _ w2 (s1.trans st) (R1.mv s2.same fr) k2
  | l xs =>
    obtain ⟨p, us, e1, n, e, ha, hr⟩ := k2
    exact g _ _ _ _ w2 (s1.trans st) (R1.mv s2.same fr) (RvOk.back R0 R1 s1 ⟨p, us, e1, n, e, ha, R1.mvO (fun a z => .inl z) (same_hide s2.same n) fr hr.occ⟩)
theorem no_ownM {ds : List PyData} {σ : L2.St} {a : Addr} : ¬ OwnM (ds.map Sl.d) σ a := by
  rintro ⟨i, xs, e, _⟩
  rw [List.getElem?_map] at e
  cases q : ds[i]? with
  | none => rw [q] at e; cases e
  | some d => rw [q] at e; cases e
def wCallX (S : WEX) (u : WAX) : WEX := fun δ P PX => u δ (fun rs δ1 => rs.all noB = true ∧ S (rs.map fun r => .d r.as) (fun r _ => (match r with | .b _ _ => False | _ => P r δ1)) PX) PX
theorem dx_call {k : Nat} {S : WEX} (tk : Takes X W) (F : FnX X.prog X.w X.K X.mg X.base k x S) (g0 : X.A.guards = some []) (room : Room k X.A) (hg : Gl X x) (ha : DAX X W (e :: es) ux)
    (hdb : (x == ("__debug__" : Str)) = false := by decide) (he : starEach (e :: es) X.env = (false, eval e X.env) :: starEach es X.env := by rfl) (hpl : (backTo pos (starEach es X.env)).any (·.1) = false := by rfl) : DEX X W (.Call (.Name x p) (e :: es) [] pos) (wCallX S ux) := by
  obtain ⟨f, fd, ps, hm, hk, hb, h4⟩ := F.ex
  refine pe_weak (pe_callGS (E := fun σ cls d H => W cls d σ H) h4 g0 room hg hm hk hb (fun σ => passAt tk σ) ha hdb he hpl) fun σ H Q ⟨O, δ, P, PX, R0, w, g, ob⟩ => ?_
  refine ⟨O, δ, _, PX, R0, w, fun rs δ1 vs H1 w1 s1 R1 k1 => ?_, ob⟩
  obtain ⟨w0, w1⟩ := w1
  have hR := rep_args R1 (RvsOk.dp R0 R1 k1 w0)
  rw [List.map_map] at hR
  refine ⟨O, _, _, PX, hR, w1, fun r δ' v H' w2 s2 R2 k2 => call_back R0 s1 R1 g w2 s2 k2, fun n cls H' pn mn xs => ob n cls H' pn mn (XS.after R0 R1 s1.tr ⟨xs.same, fun a oa _ _ => xs.frame a oa ?_ ?_⟩)⟩
  · have := no_own (ds := rs.map Rv.as) (σ := vs.map some) (a := a)
    rw [List.map_map] at this
    exact this
  · have := no_ownM (ds := rs.map Rv.as) (σ := vs.map some) (a := a)
    rw [List.map_map] at this
    exact this
def wCallP (S : WE) (u : WAX) : WEX := fun δ P PX => u δ (fun rs δ1 => rs.all noB = true ∧ S (rs.map fun r => .d r.as) fun r _ => (match r with | .b _ _ => False | _ => P r δ1)) PX
end
section
variable {X : Cx} {E : XK} {st : Stmt} {rest body orelse : List Stmt} {w w' : WS} {wx wx' : WSX} {we : WE} {ex : WEX} {t : WT} {e tg c : Expr} {pos pos' p : Pos} {b : WB} {js : List Nat} {i : Nat} {x : Str} {f : Unit}
abbrev WofE (E : XK) : WX := fun cls d _ H => E cls d H
def liftSX (K : PySem.W.Frag) (mg : Str → Option Value) (E : XK) (w : WSX) : TS := fun D σ H => ∃ O δ P PX, Rep K O δ σ H ∧ w P PX δ ∧ EOk K O δ σ H P D ∧ ObX mg (WofE E) O δ σ σ H PX
def DSX (X : Cx) (E : XK) (s : Stmt) (w : WSX) : Prop := PS X s (liftSX X.K X.mg E w)
def DSsX (X : Cx) (E : XK) (s : List Stmt) (w : WSX) : Prop := PSs X s (liftSX X.K X.mg E w)
theorem ObX.afterT {K : PySem.W.Frag} {mg : Str → Option Value} {O O1 : Addr → Prop} {δ δ1 : Dl} {σ σ1 : L2.St} {H H1 : Hp} {PX : PXn} (b : ObX mg (WofE E) O δ σ σ H PX) (R : Rep K O δ σ H) (R1 : Rep K O1 δ1 σ1 H1) (s : Tr O O1 δ δ1 σ σ1 H H1) : ObX mg (WofE E) O1 δ1 σ1 σ1 H1 PX :=
  fun n cls H' p m x => b n cls H' p m (XS.after R R1 s x)
def sPu (w : WS) : WSX := fun P _ δ => w P δ
def wThenX (w w' : WSX) : WSX := fun P PX δ => w { P with nx := fun δ1 => w' P PX δ1 } PX δ
theorem dsx_pure (h : DS X st w) : DSX X E st (sPu w) := ps_weak h fun D σ H ⟨O, δ, P, PX, R, w, f, _⟩ => ⟨O, δ, P, R, w, f⟩
theorem dssx_pure (h : DSs X rest w) : DSsX X E rest (sPu w) := pss_weak h fun D σ H ⟨O, δ, P, PX, R, w, f, _⟩ => ⟨O, δ, P, R, w, f⟩
theorem dsx_one (h : DSX X E st wx) : DSsX X E [st] wx := pss_one h
theorem dsx_cons (h : DSX X E st wx) (h2 : DSsX X E rest wx') : DSsX X E (st :: rest) (wThenX wx wx') := by
  refine pss_weak (pss_cons h h2) fun D σ H ⟨O, δ, P, PX, R, w, En, ob⟩ => ?_
  exact ⟨O, δ, _, PX, R, w, ⟨fun O' δ' σ' H' p t R' => ⟨O', δ', P, PX, R', p, En.after R R' t, ob.afterT R R' t⟩, En.rt, En.bk, En.ct⟩, ob⟩
def wIfX (t : WT) (w w' : WSX) : WSX := fun P PX δ => t δ fun c δ1 => if c = true then w P PX δ1 else w' P PX δ1
theorem dsx_if (hc : DT X c t) (h : DSsX X E body wx) (h2 : DSsX X E orelse wx') : DSX X E (.If c body orelse pos) (wIfX t wx wx') := by
  refine ps_weak (ps_if hc h h2) fun D σ H ⟨O, δ, P, PX, R, w, En, ob⟩ => ?_
  refine ⟨O, δ, _, R, w, fun k δ1 H1 w1 s1 R1 => ?_⟩
  cases k with
  | true => exact ⟨O, δ1, P, PX, R1, w1, En.after R R1 s1.tr, ob.afterT R R1 s1.tr⟩
  | false => exact ⟨O, δ1, P, PX, R1, w1, En.after R R1 s1.tr, ob.afterT R R1 s1.tr⟩
def wRetX (w : WEX) : WSX := fun P PX δ => w δ (fun r δ1 => P.rt r δ1) PX
def wDropX (w : WEX) : WSX := fun P PX δ => w δ (fun _ δ1 => P.nx δ1) PX
theorem dsx_expr (h : DEX X (WofE E) e ex) (hs : swapsWith e none pos.line X.env = pure false := by rfl) : DSX X E (.Expr e pos) (wDropX ex) := by
  refine ps_weak (ps_expr h hs) fun D σ H ⟨O, δ, P, PX, R, w, En, ob⟩ => ?_
  exact ⟨O, δ, _, PX, R, w, fun r δ1 v H1 w1 s1 R1 k1 => En.nx _ _ _ _ w1 s1.tr R1, ob⟩
def wSetX (i : Nat) (w : WEX) : WSX := fun P PX δ => w δ (fun r δ1 => match putR δ1 i r with
  | some δ2 => P.nx δ2
  | none => False) PX
theorem dsx_set (i : Nat) (hN : X.N.Nodup) (h : DEX X (WofE E) e ex) (h0 : i ≠ 0 := by decide) (hi : X.N[i]? = some x := by rfl) (hx : Loc X.env.scope x := by first | exact Or.inl rfl | exact Or.inr rfl) (hs : swapsWith e (some (.Name x pos')) pos.line X.env = pure false := by rfl)
    (hf : X.fn x = true ∨ X.env.scope.names.lookup x = some .local := by first | exact .inl rfl | exact .inr rfl) : DSX X E (.Assign [.Name x pos'] e pos) (wSetX i ex) := by
  refine ps_weak (ps_set hN hi hx h hs hf) fun D σ H ⟨O, δ, P, PX, R, w, En, ob⟩ => ?_
  refine ⟨O, δ, _, PX, R, w, fun r δ1 v H1 w1 s1 R1 k1 => ?_, ob⟩
  split at w1
  · rename_i δ2 e
    obtain ⟨O2, tr, R2⟩ := put_ok h0 R s1 R1 k1 e
    exact En.nx _ _ _ _ w1 tr R2
  · exact w1.elim
structure ExcAt (K : PySem.W.Frag) (mg : Str → Option Value) (x : Str) (C : Addr) : Prop where
  m : mg x = some (.ref C)
  q : PySem.W.excIn K C HandSPX.veTail "ValueError.__new__" = true
  k : PySem.W.keepIn K (.ref C) = true
  s : PySem.W.subIn K (.ref C) (.type "BaseException") = some true
  t : PySem.W.typeIn K (.ref C) = some (.type "type")
theorem pmk_own0 {C : Addr} {bmB : List Value} {B newId initId : String} (F : ExcBaseFacts B newId initId bmB) (q : PySem.W.excIn X.K C bmB newId = true) (gC : X.mg x = some (.ref C)) (kC : PySem.W.keepIn X.K (.ref C) = true) (r : Raises X (.ref C)) (hg : Gl X x)
    (hdb : (x == ("__debug__" : Str)) = false := by decide) : PMk X (.Call (.Name x p) [] [] pos) (fun _ H Q => Q (.ref C) none H) := by
  intro pins s σ H Q I h
  refine wpAny_Call_Name_kw (ld_glob I hg gC (PySem.W.callWith_K0 I.kIn kC ?_) hdb)
  obtain ⟨bm, N, nm, qn, bs, hdct, sn, sub, ab, col, dd, k0, k1, k2, k3, k5, mN, hC, hN, hni, T⟩ := exc_obj I.kIn q
  exact wpAny_call_exc_subT F T hC hN hni (fun h' e hm => mk_of I hm r h (I.hok.gone hm.new)) (Nat.zero_le _)
def wRaise (n : Str) : WSX := fun _ PX _ => PX n
theorem dsx_raise {C : Addr} (hc : X.calm = true) (tk : Takes X (WofE E)) (F : ∃ initId, ExcBaseFacts "ValueError" "ValueError.__new__" initId HandSPX.veTail) (a : ExcAt X.K X.mg x C) (hg : Gl X x) (hdb : (x == ("__debug__" : Str)) = false := by decide) :
    DSX X E (.Raise (some (.Call (.Name x p) [] [] pos)) none pos') (wRaise x) := by
  obtain ⟨_, F⟩ := F
  refine ps_weak (ps_raise hc tk (pmk_own0 F a.q a.m a.k (raises_own a.s a.t) hg hdb)) fun D σ H ⟨O, δ, P, PX, R, w, En, ob⟩ => ?_
  exact ob x _ H w a.m XS.refl
end
theorem fnG_ofX {P : Program} {w : World} {K : PySem.W.Frag} {mg : Str → Option Value} {base : Heap} {x qual : Str} {st : Stmt} {f : Addr} {fd : FuncData} {N ps : List Str} {k : Nat} {sp : Sp} (F : Fun K x qual st f fd) (S : FnScope N ps (defScope st)) (len : ∀ ys G Q E, sp ys G Q E → ys.length = ps.length)
    (hbody : ∀ (cdv : Value) (A : Around) (outer : List Env) (s : Shared) (G : Hp) (ys : List V) (Q : VK) (E : XK), A.guards = some [] → Room k (A.deeper (envOfC qual (defScope st) s.heap.objs.size f cdv)) → sp ys G Q E →
      ∃ t, PSs (cxOf (L2.CX P w) P w K mg base N qual (defScope st) f cdv A outer s G E) (defBody st) t ∧ t { nx := fun _ G' => Q .non G', rt := Q } (start N ys) G) : FnG P w K mg base (L2.CX P w) (k + 1) f fd ps sp := by
  obtain ⟨oc, od, kV, doc, pm, an, cdv, ct, osl, rfl, lk, hcd⟩ := F.ex
  refine ⟨len, fun A outer s G args us ys Q E g0 room e0 hb r pr => ?_⟩
  have ll := len _ _ _ _ pr
  have kin : K.In s.heap := e0.mod.kin.keeps fun b o e => (e0.bs b o e).1
  have nol : s.heap.NoLimit := e0.mod.nolimit.keeps fun b o e => (e0.bs b o e).1
  have kinds : ∀ y ∈ ps.zip us, (defScope st).names.lookup y.1 = some .local ∨ ((defScope st).names.lookup y.1 = some .cell ∧ ((cellsFrom (s.heap.objs.size + 1) (defScope st).names []).lookup y.1).isSome = true) := by
    rintro ⟨n, v⟩ hy
    have hp := S.par n (List.of_mem_zip hy).1
    exact hp.imp id fun q => ⟨q, PySem.W.cellsFrom_some _ _ _ (.inl q)⟩
  refine codeAny_call_function room.depth (kin _ _ lk) rfl S.co S.gen rfl (PySem.W.codeRec_of kin hcd) (hb _ _ _ _ ?_)
  refine wpAny_newFunctionEnv_cells S.kind kinds fun env ee s1 y => ?_
  subst ee
  refine ⟨nol.keeps y.toInCall.keep, codeAny_func ?_⟩
  obtain ⟨t, ht, hq⟩ := hbody cdv A outer s G ys Q E g0 (room.deeper _) pr
  have I : Inv (cxOf (L2.CX P w) P w K mg base N qual (defScope st) f cdv A outer s G E) [] (start N ys) G s1 := inv_start S room.hd e0 ll r y
  refine wpAny_mono (ht.run [] s1 (start N ys) G _ I hq) (fun fl s' hs => ?_) fun _ _ z => z
  have done : ∀ {τ : L2.St} {G' : Hp} {v : V} {u : Value}, Inv (cxOf (L2.CX P w) P w K mg base N qual (defScope st) f cdv A outer s G E) [] τ G' s' → RelV v u → Q v G' → CE outer P w G s Q u s' :=
    fun J rv q => ⟨_, _, J.os, J.bare, J.base, J.hok, rv, q⟩
  cases fl with
  | ret u => obtain ⟨v, τ, G', J, rv, q⟩ := hs; exact done J rv q
  | next => obtain ⟨τ, G', J, q⟩ := hs; exact done (v := V.non) (u := Value.none) J rfl q
  | brk => obtain ⟨τ, G', J, q⟩ := hs; exact q.elim
  | cont => obtain ⟨τ, G', J, q⟩ := hs; exact q.elim
theorem fnDX {P : Program} {w : World} {K : PySem.W.Frag} {mg : Str → Option Value} {base : Heap} {x qual : Str} {st : Stmt} {f : Addr} {fd : FuncData} {N ps : List Str} {k : Nat} {S : WEX} {wb : WSX} (F : Fun K x qual st f fd) (Sc : FnScope N ps (defScope st)) (hN : ps.length ≤ N.length)
    (hS : ∀ δ P PX, S δ P PX → ArgOk ps.length δ ∧ wb (endsOf δ P) PX (δ ++ List.replicate (N.length - ps.length) Sl.un))
    (hbody : ∀ (cdv : Value) (A : Around) (outer : List Env) (s : Shared) (G : Hp) (E : XK), A.guards = some [] → Room k (A.deeper (envOfC qual (defScope st) s.heap.objs.size f cdv)) → Takes (cxOf (L2.CX P w) P w K mg base N qual (defScope st) f cdv A outer s G E) (WofE E) →
      PassesOwn (model P w) (cxOf (L2.CX P w) P w K mg base N qual (defScope st) f cdv A outer s G E).A (cxOf (L2.CX P w) P w K mg base N qual (defScope st) f cdv A outer s G E).env (cxOf (L2.CX P w) P w K mg base N qual (defScope st) f cdv A outer s G E).xe →
      DSsX (cxOf (L2.CX P w) P w K mg base N qual (defScope st) f cdv A outer s G E) E (defBody st) wb) : FnG P w K mg base (L2.CX P w) (k + 1) f fd ps (spX K mg S) := by
  have len : ∀ ys G Q E, spX K mg S ys G Q E → ys.length = ps.length := fun ys G Q E ⟨O, δ, P, PX, R, hs, _⟩ => by
    have := R.len
    rw [List.length_map] at this
    rw [← this]
    exact (hS δ P PX hs).1.1
  refine fnG_ofX F Sc len fun cdv A outer s G ys Q E g0 room pr => ⟨_, hbody cdv A outer s G E g0 room (takes_of rfl rfl rfl rfl) (passes_of rfl), ?_⟩
  have ly := len _ _ _ _ pr
  obtain ⟨O, δ, Pd, PX, R, hs, f, ob⟩ := pr
  obtain ⟨ao, hw⟩ := hS δ Pd PX hs
  obtain ⟨R2, En, own, ownM⟩ := start_ok (N := N) ly R ao f
  refine ⟨O, _, _, PX, R2, hw, En, fun n cls H' pn mn xs => ob n cls H' pn mn ⟨xs.same, fun a oa no _ => xs.frame a oa (fun z => no (own a z)) (ownM a)⟩⟩
theorem fnX_in {P : Program} {w : World} {K : PySem.W.Frag} {mg : Str → Option Value} {base h : Heap} {x : Str} {st : Stmt} {ps : List Str} {S : WEX} {k : Nat} (X : K.In h) (G : h.Ns mainGlobals mg) (d : DefIn K x st)
    (hb : ∀ (kV doc pm : Value) (an : Option Addr) (cdv ct : Value) (us : List Value), us.length = ps.length → bindArgs (PySem.W.fnOf x x (defArgs st) (defBody st) (defScope st) .none kV doc pm an cdv ct) ⟨us, []⟩ = pure (ps.zip us))
    (ok : ∀ {f : Addr} {fd : FuncData}, Fun K x x st f fd → FnG P w K mg base (L2.CX P w) k f fd ps (spX K mg S)) : FnX P w K mg base k x S := by
  obtain ⟨f, oc, od, kV, dc, pm, an, cd, ct, sl, a, l, c, kp⟩ := d
  have F := fun_mk (st := st) l c kp
  exact ⟨f, _, ps, PySem.W.mg_of X G a, kp, F.binds hb, ok F⟩
section
variable {X : Cx} {e : Expr} {x : Str} {suite : List Stmt} {b₀ : Stmt} {np pos pos' pos2 : Pos} {ex : WEX} {ws : WS} {C : Addr}
def stayD (δ : Dl) : Dl := δ.map fun s => match s with
  | .d x => .d x
  | _ => .un
theorem stay_at {δ : Dl} {i : Nat} {s : Sl} (e : (stayD δ)[i]? = some s) (n : s ≠ .un) : ∃ x, s = .d x ∧ δ[i]? = some (.d x) := by
  unfold stayD at e
  rw [List.getElem?_map] at e
  cases q : δ[i]? with
  | none => rw [q] at e; cases e
  | some t =>
    rw [q] at e
    cases t <;> first | (cases e; exact absurd rfl n) | skip
    rename_i x
    cases e
    exact ⟨x, rfl, rfl⟩
end
theorem ve_base : ∃ initId, ExcBaseFacts "ValueError" "ValueError.__new__" initId HandSPX.veTail := ⟨_, PySem.F.excBase_ValueError⟩
end Dw
namespace Dw
open PySem PySem.Spec PyProof.Rows L2
section
variable {X : Cx}
end
def wGoT (b : WB) (t : WT) (wk wv : WE) (vs : List Nat) (k : List (List Int × Int) → Dl → Prop) : List PyData → List (List Int × Int) → Dl → Prop
  | [], acc, δ => k acc δ
  | x :: r, acc, δ => b x δ fun δ1 => t δ1 fun c δ2 => if c = true then wk δ2 fun y δ3 => wv δ3 fun z δ4 => ∃ (ks : List Int) (j : Int), y = .d (.tuple (ks.map PyData.int)) ∧ z = .d (.int j) ∧ wGoT b t wk wv vs k r (putI acc ks j) (wipeD δ4 vs) else wGoT b t wk wv vs k r acc (wipeD δ2 vs)
def wDcT (wi : WI) (b : WB) (t : WT) (wk wv : WE) (vs : List Nat) : WE := fun δ P => wi δ fun ds δ1 => (ds.length ≤ 10000 ∧ unAll δ1 vs = true) ∧ wGoT b t wk wv vs (fun acc δ' => P (.d (dtD acc)) δ') ds [] δ1
section
variable {X : Cx} {tg iter e kx vx : Expr} {wk wv we wo : WE} {wi : WI} {pos p : Pos} {ifs : List Expr} {scope : Scope} {own : List (Str × Nat)} {js : List Nat} {b : WB} {t : WT}
end
def side : List (List Key) → List Addr → List Value → List (List Key × Addr × Value)
  | k :: ks, u :: us, v :: vs => (k, u, v) :: side ks us vs
  | _, _, _ => []
section
variable {X : Cx} {a b : Expr} {ta : TA} {p p2 pos pos2 : Pos}
def wDZ (u : WA) : WE := fun δ P => u δ fun rs δ1 => rs.all noB = true ∧ ∃ (ks : List (List Int)) (js : List Int), rs.map Rv.as = [.list (ks.map fun k => .tuple (k.map PyData.int)), .list (js.map PyData.int)] ∧ ks.length < 100000 ∧ P (.d (dtD ((ks.zip js).foldl (fun acc p => putI acc p.1 p.2) []))) δ1
end
end Dw
namespace Dw
open PySem PySem.Spec PyProof.Rows L2
section
variable {X : Cx} {kx vx : Expr} {tk tv : TE} {wk wv : WE} {pos : Pos}
def wD1 (wk wv : WE) : WE := fun δ P => wk δ fun r δ1 => wv δ1 fun s δ2 => ∃ (ks : List Int) (j : Int), r = .d (.tuple (ks.map PyData.int)) ∧ s = .d (.int j) ∧ P (.d (dtD [(ks, j)])) δ2
end
end Dw
namespace Dw
open PySem PySem.Spec PyProof.Rows L2
section
variable {X : Cx} {tg tg1 iter iter1 e elt : Expr} {we el : WE} {wi wi1 : WI} {pos spos p py : Pos} {ifs ifs1 : List Expr} {scope : Scope} {own : List (Str × Nat)} {js js1 vs1 : List Nat} {b b1 : WB} {t t1 : WT} {y : Str}
end
section
variable {X : Cx} {a b : Expr} {ta : TE} {wa wb : WE} {p p2 q pos : Pos}
end
section
variable {X : Cx} {a b : Expr} {wa wb : WE} {pos : Pos}
theorem da_rep {K : PySem.W.Frag} {G : Hp} {vs : List V} {ds : List PyData} (h : DpAll K G vs ds) : ∀ n : Nat, DpAll K G (List.replicate n vs).flatten (List.replicate n ds).flatten
  | 0 => .nil
  | n + 1 => by
    rw [List.replicate_succ, List.replicate_succ, List.flatten_cons, List.flatten_cons]
    exact da_app h (da_rep h n)
end
end Dw
namespace Dw
open PySem PySem.Spec PyProof.Rows L2
section
variable {X : Cx} {e : Expr} {ua : WA} {p pos : Pos}
end
end Dw
namespace Dw
open PySem PySem.Spec PyProof.Rows L2
section
variable {K : PySem.W.Frag} {O O2 O3 : Addr → Prop} {δ : Dl} {σ : L2.St} {H H' : Hp}
theorem FsOk.over (s : Same (hid H O2) (hid H' O3)) : ∀ {us : List (Str × V)} {fs : List (Str × Fv)}, FsOk K O2 H us fs → (∀ a, a ∈ adsF fs → O3 a) → (∀ a, a ∈ adsF fs → H' a = H a) → FsOk K O3 H' us fs
  | [], [], _, _, _ => trivial
  | u :: us, (n, .d x) :: fs, ⟨h1, h2, h3⟩, g, f => ⟨h1, Dp.up h2 s, FsOk.over s h3 g f⟩
  | u :: us, (n, .l p xs) :: fs, ⟨h1, ⟨e, op, vs, hp, d⟩, h3⟩, g, f => ⟨h1, ⟨e, g p List.mem_cons_self, vs, (f p List.mem_cons_self).trans hp, DpAll.up d s⟩, FsOk.over s h3 (fun a m => g a (List.mem_cons_of_mem _ m)) fun a m => f a (List.mem_cons_of_mem _ m)⟩
  | [], _ :: _, h, _, _ => h.elim
  | _ :: _, [], h, _, _ => h.elim
theorem ObAt.over {o : Ob} (h : ObAt K O2 H o) (s : Same (hid H O2) (hid H' O3)) (g : ∀ a, a ∈ o.ads → O3 a) (f : ∀ a, a ∈ o.ads → H' a = H a) : ObAt K O3 H' o := by
  obtain ⟨C, us, e1, e2, e3⟩ := h.at_
  exact ⟨⟨C, us, e1, (f _ List.mem_cons_self).trans e2, FsOk.over s e3 (fun a m => g a (List.mem_cons_of_mem _ m)) fun a m => f a (List.mem_cons_of_mem _ m)⟩, g _ List.mem_cons_self, h.nd⟩
theorem Rep.over (R : Rep K O2 δ σ H) (s : Same (hid H O2) (hid H' O3)) (lo : ∀ (i : Nat) xs a, δ[i]? = some (Sl.o xs) → σ[i]? = some (some (V.ref a)) → O3 a ∧ H' a = H a) (mo : ∀ (i : Nat) xs a, δ[i]? = some (Sl.m xs) → σ[i]? = some (some (V.ref a)) → O3 a ∧ H' a = H a) (so : ∀ a, OwnS δ a → O3 a ∧ H' a = H a)
    (occ : ∀ a, O3 a → ∃ o, H' a = some o) : Rep K O3 δ σ H' := by
  refine ⟨R.len, fun i x e => ?_, fun i xs e => ?_, R.inj, occ, ⟨fun i kvs e => ?_, R.ex.i, fun i ks e => ?_, fun i o e => ?_, R.ex.ss, R.ex.sj⟩⟩
  · obtain ⟨v, e1, d⟩ := R.dat i x e
    exact ⟨v, e1, Dp.up d s⟩
  · obtain ⟨a, vs, e1, _, e2, d⟩ := R.lst i xs e
    obtain ⟨z, f⟩ := lo i xs a e e1
    exact ⟨a, vs, e1, z, by rw [f]; exact e2, DpAll.up d s⟩
  · obtain ⟨a, us, e1, _, e2, d⟩ := R.ex.m i kvs e
    obtain ⟨z, f⟩ := mo i kvs a e e1
    exact ⟨a, us, e1, z, by rw [f]; exact e2, KvOk.up s d⟩
  · obtain ⟨b, e1, e2⟩ := R.ex.k i ks e
    exact ⟨b, e1, s b _ e2⟩
  · obtain ⟨e1, e2⟩ := R.ex.s i o e
    refine ⟨e1, e2.over s (fun a m => (so a ⟨i, o, e, m⟩).1) fun a m => (so a ⟨i, o, e, m⟩).2⟩
end
def endL (δ1 : Dl) (P : Rv → Dl → Prop) : Rv → Dl → Prop := fun r δc => match δc with
  | .o _ :: _ => (match r with | .b _ _ => False | _ => P r δ1)
  | _ => False
def wCallL (S : WE) (wa : WE) (u : WA) : WE := fun δ P => wa δ fun r δ1 => match r with
  | .l xs => u δ1 fun rs δ2 => rs.all noB = true ∧ S (.o xs :: rs.map fun r => .d r.as) (endL δ2 P)
  | _ => False
section
variable {X : Cx} {e : Expr} {es : List Expr} {we : WE} {ua : WA} {pos p : Pos} {x : Str} {f : Addr} {fd : FuncData} {ps : List Str} {k : Nat} {S : WE}
end
end Dw
namespace Dw
open PySem PySem.Spec PyProof.Rows L2
section
variable {X : Cx} {e : Expr} {es : List Expr} {ua : WA} {pos p : Pos} {x : Str} {f : Addr} {fd : FuncData} {ps : List Str} {k : Nat} {S : WE}
end
end Dw
namespace Dw
open PySem PySem.Spec PyProof.Rows L2
section
variable {X : Cx} {tg e : Expr} {pos : Pos} {es : List Expr} {js : List Nat} {b : WB} {bs : WBs} {we : WE}
end
end Dw
namespace Dw
open PySem PySem.Spec PyProof.Rows L2
section
variable {X : Cx} {e : Expr} {es : List Expr} {ua : WA} {pos p : Pos} {x : Str}
end
structure FnE (P : Program) (w : World) (K : PySem.W.Frag) (mg : Str → Option Value) (base : Heap) (k : Nat) (x : Str) (S : WE) : Prop where
  ex : ∃ (a : Addr) (fd : FuncData) (ps : List Str) (T : Addr), mg x = some (.ref a) ∧ PySem.W.keepIn K (.ref a) = true ∧ (∀ H, SqT K H T []) ∧ Binds K fd ps [.ref T] ∧ FnG P w K mg base CX0 k a fd ps (spOf K S)
section
variable {X : Cx} {CX : CXT} {k : Nat} {f T : Addr} {fd : FuncData} {ps : List Str} {sp : Sp} {E : XK} {x : Str} {p pos : Pos} {e : Expr} {es : List Expr} {t : TA}
end
def wCallE (S : WE) (u : WA) : WE := fun δ P => u δ fun rs δ1 => rs.all noB = true ∧ S ((rs.map fun r => .d r.as) ++ [.d e0D]) fun r _ => (match r with | .b _ _ => False | _ => P r δ1)
section
variable {X : Cx} {e : Expr} {es : List Expr} {ua : WA} {pos p : Pos} {x : Str} {k : Nat} {S : WE}
end
end Dw
namespace SrtT
open PySem PyProof.Rows Srt
def ltL : List Int → List Int → Bool
  | _, [] => false
  | [], _ :: _ => true
  | x :: xs, y :: ys => if x = y then ltL xs ys else decide (x < y)
theorem ltL_cons (x y : Int) (xs ys : List Int) : ltL (x :: xs) (y :: ys) = if x = y then ltL xs ys else decide (x < y) := by
  rw [ltL]
theorem ltL_nil (a : List Int) : ltL a [] = false := by cases a <;> rw [ltL]
theorem ltL_asym : ∀ a b, ltL a b = true → ltL b a = false
  | [], [], _ => ltL_nil _
  | [], _ :: _, _ => ltL_nil _
  | _ :: _, [], h => by rw [ltL_nil] at h; cases h
  | x :: xs, y :: ys, h => by
    rw [ltL_cons] at h ⊢
    by_cases e : x = y
    · rw [if_pos e] at h
      rw [if_pos e.symm]
      exact ltL_asym xs ys h
    · rw [if_neg e, decide_eq_true_eq] at h
      rw [if_neg fun z => e z.symm, decide_eq_false_iff_not]
      omega
section
variable {prog : Program} {w : World} {A : Around} {E : Value → Shared → Prop} {s : Shared}
def IsTI (h : Heap) (v : Value) (ns : List Int) : Prop := ∃ (a : Addr) (o : Obj) (its : Array Value) (n : Nat), v = .ref a ∧ h.get? a = some o ∧ o.cls = .type "tuple" ∧ o.data = .seq its n ∧ L2.Vals (ns.map L2.V.int) its.toList
theorem IsTI.keeps {h h' : Heap} {v : Value} {ns : List Int} (x : IsTI h v ns) (k : ∀ b o, h.get? b = some o → o.cls = .type "tuple" → h'.get? b = some o) : IsTI h' v ns := by
  obtain ⟨a, o, its, n, e, ho, hc, hd, hv⟩ := x
  exact ⟨a, o, its, n, e, k _ _ ho hc, hc, hd, hv⟩
end
end SrtT
namespace L2
open PySem PySem.Spec PyProof.Rows SrtT
section
variable {P : Program} {w : World} {A : Around} {E : Value → Shared → Prop} {s : Shared}
end
section
variable {X : Cx}
end
end L2
namespace Dw
open PySem PySem.Spec PyProof.Rows L2 SrtT
section
variable {X : Cx} {e a : Expr} {ua : WA} {wa : WE} {p p2 q pos : Pos}
end
end Dw
namespace Dw
open PySem PySem.Spec PyProof.Rows L2
section
variable {X : Cx} {W : WX} {e : Expr} {es : List Expr} {ux : WAX} {pos p : Pos} {x : Str} {idn T : String} {r : List V → Hp → VK → Prop} {R : RCD}
def wCBX (R : RCD) (u : WAX) : WEX := fun δ P PX => u δ (fun rs δ1 => stillAll rs δ1 (R (rs.map Rv.as) fun z => P z δ1)) PX
def wCallPE (S : WE) (u : WAX) : WEX := fun δ P PX => u δ (fun rs δ1 => rs.all noB = true ∧ S ((rs.map fun r => .d r.as) ++ [.d e0D]) fun r _ => (match r with | .b _ _ => False | _ => P r δ1)) PX
end
end Dw
namespace Dw
open PySem PySem.Spec PyProof.Rows L2
section
variable {X : Cx} {a e1 e2 : Expr} {wa we1 we2 : WE} {p p2 pos pos2 sp_ : Pos}
def rngL (n : Int) : List PyData := (List.range n.toNat).map fun i : Nat => PyData.int ((i : Nat) : Int)
def wTupRg (w : WE) : WE := fun δ P => w δ fun r δ1 => ∃ n : Int, r = .d (.int n) ∧ 0 ≤ n ∧ n ≤ 1000 ∧ P (.d (.tuple (rngL n))) δ1
def wLstRg (w : WE) : WE := fun δ P => w δ fun r δ1 => ∃ n : Int, r = .d (.int n) ∧ 0 ≤ n ∧ n ≤ 1000 ∧ P (.l (rngL n)) δ1
def wTupS (w1 w2 : WE) : WE := fun δ P => w1 δ fun r δ1 => match r with
  | .d (.tuple xs) => xs.length < 900 ∧ w2 δ1 fun s δ2 => noB s = true ∧ P (.d (.tuple (xs ++ [s.as]))) δ2
  | _ => False
def wDat (w : WE) : WE := fun δ P => w δ fun r δ1 => match r with
  | .d x => P (.d x) δ1
  | .l xs => P (.d (.list xs)) δ1
  | .b _ _ => False
variable {b : Expr} {wb : WE}
end
end Dw
namespace B
open PySem PySem.Spec PyProof.Rows L2 Dw
local macro_rules | `(tactic| walk_at "ds") => `(tactic| try dsimp only [wRet, wRetN, sPu, wThenX, wIfX, wRetX, wDropX, wSetX, wCallX, wCallP, uPu, wPu, uConsX, wRaise, wDc, wDcT, wDZ, wD1, wGet1, wGet2, wGetT, wThen, wIfS, wIf, wNotT, wTru, wB, w2, wV, wC, wCons, wNil, wCall, wCallO, wCallO1, endO, wCB, wLc, wSeq, wYes, wNext, wNever, wDrop, wSet, wAsg, wPair, wFor, wTup, wLst, wAndV, wOrV, wNotV, wNeg, wAndT, wOrT, wIsi, wChain, wSlice, wPart, wNo, wZip, wEnum, wRng1, wRng2, wLc2, wApp, wApp1, wPop, wPop1, wExt, wExt1, wSetI, wSetI1, wSetD, wIdx, wIdx1, wExtL, wExtL1, wLenM, wNotInM, wGetM, wPutM, wPutM1, wSetK, wTri, wForget, rCatTD, rCatLD, intsR, Option.map_some, bN, bTup, bCons, bNil, as_d, as_l, as_b, noB_d, noB_l, still_d, still_l, still_b, put_d, put_l, tru_bool, tru_tup, tru_lst, isT_tup, isI_int, isB_int, stillA_nil, stillA_cons, map0, map1, map2, map3, len_l, len_t, tup_l, tup_t, lst_l, lst_t, max_i, min_i, List.all_cons, List.all_nil, Bool.and_self, Bool.and_true, Bool.not_true, Bool.not_false, List.getElem?_cons_zero, List.getElem?_cons_succ, List.cons_append, List.nil_append, List.append_nil, List.reduceReplicate, Nat.reduceSub, Nat.sub_self, rI1, rI2, rAddD, rSubD, rMulD, rDivD, rModD, rPowD, rLtD, rLeD, rGtD, rGeD, List.set_cons_zero, List.set_cons_succ, List.set_nil, endsOf, outD, wipeD])
abbrev Cells := List (Option Int)
abbrev Rule := List Int × Int
def iT (g : List Int) : PyData := .tuple (g.map PyData.int)
def ruleD (r : Rule) : PyData := .tuple [iT r.1, .int r.2]
def rulesD (rs : List Rule) : PyData := .tuple (rs.map ruleD)
def CellOk (c : Option Int) : Prop := ∀ v, c = some v → 0 ≤ v ∧ v ≤ 9999
def RowOk (m : Int) (r : Cells) : Prop := (r.length : Int) = m ∧ ∀ c ∈ r, CellOk c
structure TabOk (m : Int) (rs : List Cells) : Prop where
  lo : 1 ≤ m
  hi : m ≤ 5
  few : rs.length ≤ 8
  rows : ∀ r ∈ rs, RowOk m r
structure ColsOk (m : Int) (g : List Int) : Prop where
  few : g.length ≤ 5
  asc : g.Pairwise (· < ·)
  inn : ∀ c ∈ g, 0 ≤ c ∧ c < m
structure RuleOk (m : Int) (r : Rule) : Prop where
  cols : ColsOk m r.1
  lo : 0 ≤ r.2
  hi : r.2 < m
  out : r.2 ∉ r.1
structure RulesOk (m : Int) (rs : List Rule) : Prop where
  few : rs.length ≤ 8
  all : ∀ r ∈ rs, RuleOk m r
def Full (rs : List Cells) : Prop := ∀ r ∈ rs, ∀ c ∈ r, c ≠ none
def at_ (r : Cells) (c : Int) : Option Int := r.getD c.toNat none
def eqIn (g : List Int) (a b : Cells) : Bool := g.all fun c => decide (at_ a c = at_ b c)
def pairs (n : Nat) : List (Nat × Nat) := (List.range n).flatMap fun i => (List.range (n - (i + 1))).map fun j => (i, i + 1 + j)
def brkT (rs : List Cells) (r : Rule) (p : Nat × Nat) : Bool := eqIn r.1 (rs.getD p.1 []) (rs.getD p.2 []) && !decide (at_ (rs.getD p.1 []) r.2 = at_ (rs.getD p.2 []) r.2)
def brk (rs : List Cells) (r : Rule) : List (Nat × Nat) := (pairs rs.length).filter (brkT rs r)
theorem eqv_int (a b : Int) : PyData.eqv (.int a) (.int b) = decide (a = b) := by
  have : PyData.eqv (.int a) (.int b) = (a == b) := by unfold PyData.eqv; rfl
  rw [this, Bool.beq_eq_decide_eq]
theorem ifT {A B : Prop} {c : Bool} (e : c = true) (h : A) : if c = true then A else B := by rw [if_pos e]; exact h
theorem ifF {A B : Prop} {c : Bool} (e : c = false) (h : B) : if c = true then A else B := by rw [e]; exact h
theorem all_ok {xs : List PyData} {P : Rv → Prop} (bs : List Bool) (e : xs = bs.map PyData.bool) (h : P (.d (.bool (bs.all id)))) : rAllD [.list xs] P := by
  subst e
  simp only [rAllD, bools_map]
  exact h
theorem tupix {xs : List PyData} {i : Int} {z : PyData} {P : Rv → Prop} (e : atI xs i = some z) (h : P (.d z)) : rIxD (.tuple xs) (.int i) P := by
  unfold Dw.rIxD
  simp only [e]
  exact h
theorem eq_ok {d e : PyData} {P : Rv → Prop} {k : Bool} (o : eqOk d e = true) (q : PyData.eqv d e = k) (h : P (.d (.bool k))) : rEqT d e P := ⟨o, by rw [q]; exact h⟩
theorem ne_ok {d e : PyData} {P : Rv → Prop} {k : Bool} (o : eqOk d e = true) (q : PyData.eqv d e = k) (h : P (.d (.bool (!k)))) : rNeT d e P := ⟨o, by rw [q]; exact h⟩
theorem is_ok {d : PyData} {P : Rv → Prop} {k : Bool} (q : isNo d = k) (h : P (.d (.bool k))) : rIsT false d .none P := by
  subst q
  exact h
theorem atI_of {α : Type} {xs : List α} {i : Int} {z : α} (h0 : 0 ≤ i) (e : xs[i.toNat]? = some z) : atI xs i = some z := by
  have := atI_nat e
  rw [Int.toNat_of_nonneg h0] at this
  exact this
end B
namespace B
open PySem PySem.Spec PyProof.Rows L2 Dw
local macro_rules | `(tactic| walk_at "ds") => `(tactic| try dsimp only [wRet, wRetN, wThen, wIfS, wIf, wNotT, wTru, wB, w2, wV, wC, wCons, wNil, wCall, wCallO, wCallO1, endO, wCB, wLc, wSeq, wYes, wNext, wNever, wDrop, wSet, wAsg, wPair, wFor, wTup, wLst, wAndV, wOrV, wNotV, wNeg, wAndT, wOrT, wIsi, wChain, wSlice, wPart, wNo, wZip, wEnum, wRng1, wRng2, wLc2, wApp, wApp1, wPop, wPop1, wExt, wExt1, wSetI, wSetI1, wSetD, wIdx, wIdx1, wExtL, wExtL1, wLenM, wNotInM, wGetM, wPutM, wPutM1, wSetK, wTri, wForget, rCatTD, rCatLD, intsR, Option.map_some, bN, bTup, bCons, bNil, as_d, as_l, as_b, noB_d, noB_l, still_d, still_l, still_b, put_d, put_l, tru_bool, tru_tup, tru_lst, isT_tup, isI_int, isB_int, stillA_nil, stillA_cons, map0, map1, map2, map3, len_l, len_t, tup_l, tup_t, lst_l, lst_t, max_i, min_i, List.all_cons, List.all_nil, Bool.and_self, Bool.and_true, Bool.not_true, Bool.not_false, List.getElem?_cons_zero, List.getElem?_cons_succ, List.cons_append, List.nil_append, List.append_nil, List.reduceReplicate, Nat.reduceSub, Nat.sub_self, rI1, rI2, rAddD, rSubD, rMulD, rDivD, rModD, rPowD, rLtD, rLeD, rGtD, rGeD, List.set_cons_zero, List.set_cons_succ, List.set_nil, endsOf, outD, wipeD])
def Pen (n : Nat) (xs : List PyData) : Prop := ∃ a b c : Int, xs = [.int a, .int b, .int c] ∧ 0 ≤ a ∧ 0 ≤ b ∧ b < 1000000007 ∧ 0 ≤ c ∧ c ≤ n
theorem Pen.mono {n k : Nat} {xs : List PyData} (h : Pen n xs) (hk : n ≤ k) : Pen k xs := by
  obtain ⟨a, b, c, e, h1, h2, h3, h4, h5⟩ := h
  exact ⟨a, b, c, e, h1, h2, h3, h4, by omega⟩
def S_law_cell_at : WE := fun δ P => ∃ (ns : List Int) (k : Int), δ = [.d (.list (ns.map PyData.int)), .d (.int k)] ∧ 0 ≤ k ∧ ∀ v : Int, P (.d (.int v)) δ
def S_law_pen : WE := fun δ P => ∃ c : Int, δ = [.d (.int c)] ∧ ∀ xs, Pen 0 xs → P (.l xs) δ
def S_law_draw : WE := fun δ P => ∃ xs n m, δ = [.o xs, .d (.int m)] ∧ Pen n xs ∧ n ≤ 1000000 ∧ 1 ≤ m ∧ m ≤ 1000000 ∧ ∀ ys d, Pen (n + 1) ys → 0 ≤ d → d < m → P (.d (.int d)) [.o ys, .d (.int m)]
def S_law_rule : WE := fun δ P => ∃ xs n m, δ = [.o xs, .d (.int m)] ∧ Pen n xs ∧ n ≤ 999000 ∧ 1 ≤ m ∧ m ≤ 5 ∧ ∀ ys r, Pen (n + 10) ys → RuleOk m r → P (.d (ruleD r)) [.o ys, .d (.int m)]
def S_law_rules : WE := fun δ P => ∃ xs n m k, δ = [.o xs, .d (.int m), .d (.int k)] ∧ Pen n xs ∧ n ≤ 990000 ∧ 1 ≤ m ∧ m ≤ 5 ∧ 0 ≤ k ∧ k ≤ 8 ∧ ∀ ys rs, Pen (n + 100) ys → RulesOk m rs → P (.d (rulesD rs)) [.o ys, .d (.int m), .d (.int k)]
def S_law_same : WE := fun δ P => ∃ x, δ = [.d x, .d x] ∧ showOk x ∧ P (.d (.bool true)) δ
def wb_law_cell_at : WS := (wThen (wIfS (wB (w2 rLtD (wV 1) (wCB rLenD (wCons (wV 0) wNil)))) (wRet (w2 rIxD (wV 0) (wV 1))) wNext)
      (wRet (wC (.int 0))))
def wb_law_pen : WS := (wRet (wLst (wCons (wCB rMax2D (wCons (wC (.int 0)) (wCons (w2 rSubD (wV 0) (w2 rPowD (wC (.int 10)) (wC (.int 18)))) wNil))) (wCons (w2 rModD (wV 0) (wC (.int 1000000007))) (wCons (wC (.int 0)) wNil)))))
def wb_law_draw : WS := (wThen (wIfS (wB (w2 rGtD (w2 rIxD (wV 0) (wC (.int 0))) (wC (.int 0)))) (wThen (wSet 3 (w2 rModD (w2 rIxD (wV 0) (wC (.int 0))) (wV 1)))
      (wThen (wSetI 0 (wC (.int 0)) (w2 rDivD (w2 rIxD (wV 0) (wC (.int 0))) (wV 1)))
      (wRet (wV 3)))) wNext)
      (wThen (wSetI 0 (wC (.int 2)) (w2 rAddD (w2 rIxD (wV 0) (wC (.int 2))) (wC (.int 1))))
      (wThen (wSet 2 (w2 rModD (w2 rMulD (w2 rAddD (w2 rIxD (wV 0) (wC (.int 1))) (w2 rMulD (wC (.int 17)) (w2 rIxD (wV 0) (wC (.int 2))))) (w2 rAddD (wC (.int 69621)) (w2 rMulD (wC (.int 2)) (w2 rIxD (wV 0) (wC (.int 2)))))) (wC (.int 2147483647))))
      (wThen (wSet 2 (w2 rModD (w2 rAddD (w2 rAddD (w2 rMulD (wV 2) (wV 2)) (w2 rMulD (wC (.int 40503)) (w2 rIxD (wV 0) (wC (.int 2))))) (wC (.int 5))) (wC (.int 2147483629))))
      (wRet (w2 rModD (w2 rDivD (w2 rModD (w2 rMulD (wV 2) (wC (.int 48271))) (wC (.int 2147483647))) (wC (.int 32))) (wV 1)))))))
def wb_law_same : WS := (wRet (w2 rEqT (wCB rReprD (wCons (wV 0) wNil)) (wCB rReprD (wCons (wV 1) wNil))))
def wb_law_rule : WS := (wThen (wSet 2 (wCallO S_law_draw 0 (wCons (wV 1) wNil)))
      (wThen (wSet 3 (wLc (wRng1 (wCons (wV 1) wNil)) (bN 7) (wB (w2 rNeT (wV 7) (wV 2))) (wV 7) [7]))
      (wThen (wSet 4 (w2 rIxD (wLst (wCons (wC (.int 1)) (wCons (wC (.int 1)) (wCons (wC (.int 2)) (wCons (wC (.int 1)) (wCons (wC (.int 0)) (wCons (wC (.int 3)) (wCons (wC (.int 4)) wNil)))))))) (wCallO S_law_draw 0 (wCons (wC (.int 7)) wNil))))
      (wThen (wSet 5 (wLst wNil))
      (wThen (wFor (wRng1 (wCons (wCB rMin2D (wCons (wV 4) (wCons (wCB rLenD (wCons (wV 3) wNil)) wNil))) wNil)) (bN 6) (wDrop (wApp 5 (wPop 3 (wCallO S_law_draw 0 (wCons (wCB rLenD (wCons (wV 3) wNil)) wNil))))))
      (wRet (wTup (wCons (wCB rTupleD (wCons (wCB rSortedD (wCons (wV 5) wNil)) wNil)) (wCons (wV 2) wNil)))))))))
def wb_law_rules : WS := (wRet (wCB rTupleD (wCons (wLc (wRng1 (wCons (wCallO S_law_draw 0 (wCons (w2 rAddD (wV 2) (wC (.int 1))) wNil)) wNil)) (bN 3) wYes (wCallO S_law_rule 0 (wCons (wV 1) wNil)) [3]) wNil)))
theorem lstix {xs : List PyData} {i : Int} {z : PyData} {P : Rv → Prop} (e : atI xs i = some z) (h : P (.d z)) : rIxD (.list xs) (.int i) P := by
  unfold Dw.rIxD
  simp only [e]
  exact h
theorem hS_law_cell_at : ∀ δ P, S_law_cell_at δ P → ArgOk 2 δ ∧ wb_law_cell_at (endsOf δ P) (δ ++ List.replicate (2 - 2) Sl.un) := by
  rintro δ P ⟨ns, k, rfl, hk, h⟩
  refine ⟨argD [.list (ns.map PyData.int), .int k], ?_⟩
  unfold wb_law_cell_at
  walk_at "ds"
  refine ite2 (fun e => ?_) (fun e => h 0)
  have e := of_decide_eq_true e
  rw [List.length_map] at e
  have hl : k.toNat < ns.length := by omega
  refine lstix (z := .int ns[k.toNat]) (atI_of hk ?_) (h _)
  rw [List.getElem?_map, List.getElem?_eq_getElem hl]
  rfl
theorem hS_law_pen : ∀ δ P, S_law_pen δ P → ArgOk 1 δ ∧ wb_law_pen (endsOf δ P) (δ ++ List.replicate (1 - 1) Sl.un) := by
  rintro δ P ⟨c, rfl, h⟩
  refine ⟨argD [.int c], ?_⟩
  unfold wb_law_pen
  walk_at "ds"
  refine ⟨⟨by decide, by decide, by decide⟩, ⟨by decide, ⟨rfl, by simp⟩, h _ ⟨_, _, _, rfl, ?_, ?_, ?_, by decide, by decide⟩⟩⟩
  · split <;> omega
  · exact Int.emod_nonneg _ (by decide)
  · exact Int.emod_lt_of_pos _ (by decide)
theorem hS_law_draw : ∀ δ P, S_law_draw δ P → ArgOk 2 δ ∧ wb_law_draw (endsOf δ P) (δ ++ List.replicate (4 - 2) Sl.un) := by
  rintro δ P ⟨xs, n, m, rfl, ⟨a, b, c, rfl, h1, h2, h3, h4, h5⟩, hn, hm, hm2, h⟩
  refine ⟨argO _ [.int m], ?_⟩
  unfold wb_law_draw
  walk_at "ds"
  refine ⟨rfl, lstix rfl ?_⟩
  walk_at "ds"
  refine ite2 (fun e => ?_) (fun e => ?_)
  · refine ⟨rfl, lstix rfl ?_⟩
    walk_at "ds"
    refine ⟨by omega, ?_⟩
    walk_at "ds"
    refine ⟨rfl, lstix rfl ?_⟩
    walk_at "ds"
    refine ⟨⟨by omega, by omega⟩, rfl, ?_⟩
    exact h _ _ ⟨a / m, b, c, rfl, Int.ediv_nonneg h1 (by omega), h2, h3, h4, by omega⟩ (Int.emod_nonneg _ (by omega)) (Int.emod_lt_of_pos _ (by omega))
  · refine ⟨rfl, lstix rfl ?_⟩
    walk_at "ds"
    refine ⟨rfl, ?_⟩
    show _ ∧ _
    refine ⟨rfl, lstix rfl ?_⟩
    walk_at "ds"
    refine ⟨rfl, lstix rfl ?_⟩
    walk_at "ds"
    have q1 := Int.emod_nonneg ((b + 17 * (c + 1)) * (69621 + 2 * (c + 1))) (show (2147483647 : Int) ≠ 0 by decide)
    have q2 := Int.emod_lt_of_pos ((b + 17 * (c + 1)) * (69621 + 2 * (c + 1))) (show (0 : Int) < 2147483647 by decide)
    refine ⟨.inl ⟨by decide, by decide⟩, rfl, lstix rfl ?_⟩
    walk_at "ds"
    refine ⟨.inl ⟨by decide, by decide⟩, .inl ⟨by omega, by omega⟩, by decide, .inl ⟨by omega, by omega⟩, rfl, lstix rfl ?_⟩
    walk_at "ds"
    refine ⟨.inl ⟨by decide, by decide⟩, by decide, .inr ⟨by decide, by decide⟩, by decide, ⟨by decide, by decide⟩, by omega, ?_⟩
    exact h _ _ ⟨a, b, c + 1, rfl, h1, h2, h3, by omega, by omega⟩ (Int.emod_nonneg _ (by omega)) (Int.emod_lt_of_pos _ (by omega))
theorem str_eq (x : Str) : PyData.eqv (.str x) (.str x) = true := by
  unfold PyData.eqv
  exact beq_self_eq_true x
theorem hS_law_same : ∀ δ P, S_law_same δ P → ArgOk 2 δ ∧ wb_law_same (endsOf δ P) (δ ++ List.replicate (2 - 2) Sl.un) := by
  rintro δ P ⟨x, rfl, hx, h⟩
  refine ⟨argD [x, x], ?_⟩
  unfold wb_law_same
  walk_at "ds"
  refine ⟨hx, ?_⟩
  walk_at "ds"
  refine ⟨hx, ?_⟩
  walk_at "ds"
  exact eq_ok rfl (str_eq _) h
theorem hS_law_rules : ∀ δ P, S_law_rules δ P → ArgOk 3 δ ∧ wb_law_rules (endsOf δ P) (δ ++ List.replicate (4 - 3) Sl.un) := by
  rintro δ P ⟨xs, n, m, k, rfl, hp, hn, hm, hm2, hk, hk2, h⟩
  refine ⟨argO _ [.int m, .int k], ?_⟩
  unfold wb_law_rules
  walk_at "ds"
  refine ⟨rfl, xs, n, k + 1, rfl, hp, by omega, by omega, by omega, fun ys d hy h0 h4 => ?_⟩
  walk_at "ds"
  refine ⟨⟨by omega, by omega⟩, ⟨by rw [rangeD_len]; omega, rfl⟩, ?_⟩
  refine go_inv d.toNat (fun i acc δ => ∃ zs rs, δ = [.o zs, .d (.int m), .d (.int k), .un] ∧ acc = rs.map ruleD ∧ rs.length = i ∧ (∀ r ∈ rs, RuleOk m r) ∧ Pen (n + 1 + 10 * i) zs) ?_ _ [] _ 0 (by rw [rangeD_len]; omega) ⟨ys, [], rfl, rfl, rfl, by simp, hy⟩ ?_
  · rintro i x acc δ C hi ⟨zs, rs, rfl, rfl, hl, ha, hz⟩ hC
    walk_at "ds"
    refine ifT rfl ⟨rfl, zs, n + 1 + 10 * i, m, rfl, hz, by omega, hm, hm2, fun us r hu hr => ?_⟩
    walk_at "ds"
    refine ⟨rfl, hC _ _ ⟨us, rs ++ [r], rfl, by rw [List.map_append]; rfl, by rw [List.length_append, hl]; rfl, ?_, ?_⟩⟩
    · intro q hq
      rcases List.mem_append.mp hq with hq | hq
      · exact ha q hq
      · obtain rfl : q = r := by simpa using hq
        exact hr
    · exact hu.mono (by omega)
  · rintro acc δ ⟨zs, rs, rfl, rfl, hl, ha, hz⟩
    exact h zs rs (hz.mono (by omega)) ⟨by omega, ha⟩
theorem erase_perm {α : Type} : ∀ (l : List α) (i : Nat) (h : i < l.length), (l[i] :: l.eraseIdx i).Perm l
  | [], i, h => by simp at h
  | x :: r, 0, h => List.Perm.refl _
  | x :: r, i + 1, h => by
    have ih := erase_perm r i (by simpa using h)
    exact (List.Perm.swap x (r[i]'(by simpa using h)) (r.eraseIdx i)).trans (ih.cons x)
theorem erase_map {α β : Type} (f : α → β) : ∀ (l : List α) (i : Nat), (l.map f).eraseIdx i = (l.eraseIdx i).map f
  | [], i => rfl
  | x :: r, 0 => rfl
  | x :: r, i + 1 => by
    show f x :: (r.map f).eraseIdx i = f x :: (r.eraseIdx i).map f
    rw [erase_map f r i]
theorem sorted_ok {ns : List Int} {P : Rv → Prop} (h : ∀ ms : List Int, ms.Perm ns → ms.Pairwise (· ≤ ·) → P (.l (ms.map PyData.int))) : rSortedD [.list (ns.map PyData.int)] P := by
  simp only [rSortedD, Dw.ints_map]
  exact h
theorem hS_law_rule : ∀ δ P, S_law_rule δ P → ArgOk 2 δ ∧ wb_law_rule (endsOf δ P) (δ ++ List.replicate (8 - 2) Sl.un) := by
  rintro δ P ⟨xs, n, m, rfl, hp, hn, hm, hm2, h⟩
  refine ⟨argO _ [.int m], ?_⟩
  unfold wb_law_rule
  walk_at "ds"
  -- then
  refine ⟨rfl, xs, n, m, rfl, hp, by omega, by omega, by omega, fun ys t hy h0 h4 => ?_⟩
  walk_at "ds"
  -- others
  refine ⟨⟨by omega, by omega⟩, ⟨by rw [rangeD_len]; omega, rfl⟩, ?_⟩
  refine go_pure (fun x => match x with | .int c => !decide (c = t) | _ => false) id _ [] (fun x hx C C' h1 h2 => ?_) ?_
  · obtain ⟨i, hi, rfl⟩ := mem_range hx
    walk_at "ds"
    refine ne_ok rfl (eqv_int _ _) ?_
    walk_at "ds"
    cases e : (!decide ((0 : Int) + i = t)) with
    | true => exact ifT rfl ⟨rfl, h1 e⟩
    | false => exact ifF rfl (h2 e)
  have eo : ∃ os : List Int, ((rangeD 0 m.toNat).filter fun x => match x with | .int c => !decide (c = t) | _ => false).map id = os.map PyData.int ∧ os.Nodup ∧ (∀ c ∈ os, 0 ≤ c ∧ c < m ∧ c ≠ t) ∧ os.length ≤ 5 := by
    refine ⟨((List.range m.toNat).map fun i => ((0 : Int) + (i : Nat))).filter fun c => !decide (c = t), ?_, ?_, ?_, ?_⟩
    · rw [List.map_id, rangeD_eq, List.filter_map, List.filter_map, List.map_map]
      rfl
    · refine List.Pairwise.filter _ ?_
      exact List.Pairwise.map _ (fun a b (hab : a ≠ b) => by omega) List.nodup_range
    · intro c hc
      obtain ⟨hc, ht⟩ := List.mem_filter.mp hc
      obtain ⟨i, hi, rfl⟩ := List.mem_map.mp hc
      have := List.mem_range.mp hi
      refine ⟨by omega, by omega, fun z => ?_⟩
      rw [z] at ht
      simp at ht
    · refine Nat.le_trans (List.length_filter_le _ _) ?_
      rw [List.length_map, List.length_range]
      omega
  obtain ⟨os, e1, e2, e3, e4⟩ := eo
  rw [List.nil_append, e1]
  walk_at "ds"
  -- size
  refine ⟨⟨rfl, by simp⟩, rfl, ys, n + 1, 7, rfl, hy, by omega, by decide, by decide, fun zs d hz d0 d7 => ?_⟩
  walk_at "ds"
  have sz : ∃ s : Int, atI [PyData.int 1, .int 1, .int 2, .int 1, .int 0, .int 3, .int 4] d = some (.int s) ∧ 0 ≤ s ∧ s ≤ 4 := by
    have w : d = 0 ∨ d = 1 ∨ d = 2 ∨ d = 3 ∨ d = 4 ∨ d = 5 ∨ d = 6 := by omega
    rcases w with rfl | rfl | rfl | rfl | rfl | rfl | rfl
    · exact ⟨1, rfl, by decide, by decide⟩
    · exact ⟨1, rfl, by decide, by decide⟩
    · exact ⟨2, rfl, by decide, by decide⟩
    · exact ⟨1, rfl, by decide, by decide⟩
    · exact ⟨0, rfl, by decide, by decide⟩
    · exact ⟨3, rfl, by decide, by decide⟩
    · exact ⟨4, rfl, by decide, by decide⟩
  obtain ⟨s, es, s0, s4⟩ := sz
  refine lstix es ?_
  walk_at "ds"
  refine ⟨⟨rfl, by simp⟩, ?_⟩
  walk_at "ds"
  refine ⟨rfl, ⟨by rw [List.length_map]; split <;> omega, by rw [List.length_map]; split <;> omega⟩, ?_⟩
  generalize hk : (if (((os.map PyData.int).length : Nat) : Int) < s then (((os.map PyData.int).length : Nat) : Int) else s).toNat = k
  have k1 : k ≤ os.length := by rw [← hk, List.length_map]; split <;> omega
  have k2 : k ≤ 4 := by rw [← hk, List.length_map]; split <;> omega
  refine loop_inv (fun i δ => ∃ us os' gs y6, δ = [.o us, .d (.int m), .d (.int t), .o (os'.map PyData.int), .d (.int s), .o (gs.map PyData.int), y6, .un] ∧ (gs ++ os').Nodup ∧ (∀ c ∈ gs ++ os', 0 ≤ c ∧ c < m ∧ c ≠ t) ∧ gs.length = i ∧ os'.length + i = os.length ∧ Pen (n + 2 + i) us) (rangeD 0 k) ?_ _ _ 0 rfl (Nat.zero_le _) ⟨zs, os, [], _, rfl, e2, e3, rfl, rfl, hz⟩ ?_
  · rintro i x δ C hx ⟨us, os', gs, y6, rfl, g1, g2, g3, g4, g5⟩ hC
    have hi : i < k := by
      have := (List.getElem?_eq_some_iff.mp hx).1
      rw [rangeD_len] at this
      exact this
    walk_at "ds"
    refine ⟨rfl, rfl, us, n + 2 + i, (((os'.map PyData.int).length : Nat) : Int), rfl, g5, by omega, by rw [List.length_map]; omega, by rw [List.length_map]; omega, fun vs d hv q0 q1 => ?_⟩
    rw [List.length_map] at q1
    have hd : d.toNat < os'.length := by omega
    have ei : ixN (os'.map PyData.int).length d = some d.toNat := by
      unfold ixN
      rw [if_pos q0, if_pos (by rw [List.length_map]; exact q1)]
    have ej : (os'.map PyData.int)[d.toNat]? = some (.int os'[d.toNat]) := by
      rw [List.getElem?_map, List.getElem?_eq_getElem hd]
      rfl
    walk_at "ds"
    rw [ei]
    dsimp only
    rw [ej]
    walk_at "ds"
    have pm : (gs ++ [os'[d.toNat]] ++ os'.eraseIdx d.toNat).Perm (gs ++ os') := by
      rw [List.append_assoc]
      exact List.Perm.append_left gs (erase_perm os' _ hd)
    refine ⟨by rw [List.length_map]; omega, rfl, by rw [List.length_map]; omega, hC _ ⟨vs, os'.eraseIdx d.toNat, gs ++ [os'[d.toNat]], .d x, ?_, ?_, ?_, ?_, ?_, hv⟩⟩
    · rw [List.map_append, erase_map]
      rfl
    · exact pm.nodup_iff.mpr g1
    · exact fun c hc => g2 c (pm.mem_iff.mp hc)
    · rw [List.length_append, g3]; rfl
    · rw [List.length_eraseIdx_of_lt hd]; omega
  · rintro δ ⟨us, os', gs, y6, rfl, g1, g2, g3, g4, g5⟩
    rw [rangeD_len] at g3 g4 g5
    walk_at "ds"
    refine ⟨rfl, sorted_ok fun ms p1 p2 => ?_⟩
    walk_at "ds"
    refine ⟨⟨rfl, by simp⟩, h us (ms, t) (g5.mono (by omega)) ⟨⟨?_, ?_, ?_⟩, h0, h4, ?_⟩⟩
    · show ms.length ≤ 5
      rw [p1.length_eq]; omega
    · have nd : ms.Nodup := p1.nodup_iff.mpr (List.nodup_append.mp g1).1
      exact (List.pairwise_and_iff.mpr ⟨p2, nd⟩).imp fun ⟨a, b⟩ => by omega
    · intro c hc
      have := g2 c (List.mem_append_left _ (p1.mem_iff.mp hc))
      exact ⟨this.1, this.2.1⟩
    · intro hc
      exact (g2 t (List.mem_append_left _ (p1.mem_iff.mp hc))).2.2 rfl
theorem shaped_flat {xs : List PyData} (h : ∀ x ∈ xs, ∃ i, x = .int i) : SeqAt.shaped (.list xs) = true := by
  have h1 : ∀ xs : List PyData, (∀ x ∈ xs, ∃ i, x = PyData.int i) → PyData.canLayAll0 xs = true ∧ PyData.depthAll xs = 0 := by
    intro xs
    induction xs with
    | nil => exact fun _ => ⟨rfl, by simp [PyData.depthAll]⟩
    | cons p r ih =>
      intro hp
      obtain ⟨i, rfl⟩ := hp p List.mem_cons_self
      have := ih fun x hx => hp x (List.mem_cons_of_mem _ hx)
      exact ⟨by simp only [PyData.canLayAll0, this.1, PyData.canLay0, Bool.and_self], by simp only [PyData.depthAll, PyData.depth, this.2]; rfl⟩
  unfold SeqAt.shaped
  rw [Bool.and_eq_true]
  refine ⟨?_, decide_eq_true ?_⟩
  · simp only [PyData.canLay0]
    exact (h1 xs h).1
  · simp only [PyData.depth, (h1 xs h).2]
    decide
mutual
def short : PyData → Bool
  | .none => true
  | .bool _ => true
  | .int i => decide (0 ≤ i) && decide (i < 100000)
  | .list xs => shortAll xs
  | .tuple xs => shortAll xs
  | .str x => decide (x = "only") || decide (x = "all but") || decide (x = "always") || decide (x = "never") || decide (x = "sometimes") || decide (x = "filling") || decide (x = "conflict") || decide (x = "exact") || decide (x = "table")
  | _ => false
def shortAll : List PyData → Bool
  | [] => true
  | x :: xs => short x && shortAll xs
end
mutual
def count : PyData → Nat
  | .list xs => countAll xs
  | .tuple xs => countAll xs
  | _ => 0
def countAll : List PyData → Nat
  | [] => 0
  | x :: xs => count x + 1 + countAll xs
end
theorem int_len {i : Int} (h0 : 0 ≤ i) (h1 : i < 100000) : (PyData.shown (.int i)).length ≤ 8 := by
  have := toString_length_le h0 (k := 5) (by decide) (by omega)
  unfold PyData.shown
  omega
mutual
theorem show_len : ∀ d : PyData, short d = true → d.showable = true ∧ d.hasDict = false ∧ d.shown.length ≤ 14 * count d + 12
  | .none, _ => ⟨rfl, by simp [PyData.hasDict], by decide⟩
  | .bool b, _ => ⟨rfl, by simp [PyData.hasDict], by cases b <;> decide⟩
  | .int i, h => by
    simp only [short, Bool.and_eq_true, decide_eq_true_eq] at h
    refine ⟨?_, by simp [PyData.hasDict], Nat.le_trans (int_len h.1 h.2) (by omega)⟩
    simp only [PyData.showable, decide_eq_true_eq]
    have h17 : i.natAbs < 2 ^ 17 := by omega
    by_cases hz : i.natAbs = 0
    · rw [hz]; decide
    · exact Nat.lt_of_lt_of_le ((Nat.log2_lt hz).mpr h17) (by decide)
  | .list xs, h => by
    simp only [short] at h
    obtain ⟨h1, h2, h3⟩ := show_lenA xs h
    have h4 := listText_len_le (PyData.shownAll xs)
    have h5 := PyData.shownAll_length xs
    refine ⟨by simpa only [PyData.showable] using h1, by simpa only [PyData.hasDict] using h2, ?_⟩
    simp only [PyData.shown, count]
    omega
  | .tuple xs, h => by
    simp only [short] at h
    obtain ⟨h1, h2, h3⟩ := show_lenA xs h
    have h4 := tupleText_len_le (PyData.shownAll xs)
    have h5 := PyData.shownAll_length xs
    refine ⟨by simpa only [PyData.showable] using h1, by simpa only [PyData.hasDict] using h2, ?_⟩
    simp only [PyData.shown, count]
    omega
  | .str x, h => by
    simp only [short, Bool.or_eq_true, decide_eq_true_eq] at h
    refine ⟨rfl, by simp [PyData.hasDict], ?_⟩
    rcases h with ((((((((h | h) | h) | h) | h) | h) | h) | h) | h) <;> (subst h; decide +kernel)
  | .dict x, h => by simp [short] at h
theorem show_lenA : ∀ xs : List PyData, shortAll xs = true → PyData.showableAll xs = true ∧ PyData.hasDictAll xs = false ∧ ((PyData.shownAll xs).map (·.length)).sum + 2 * xs.length ≤ 14 * countAll xs
  | [], _ => ⟨by simp [PyData.showableAll], by simp [PyData.hasDictAll], by simp [PyData.shownAll]⟩
  | x :: xs, h => by
    simp only [shortAll, Bool.and_eq_true] at h
    obtain ⟨a1, a2, a3⟩ := show_len x h.1
    obtain ⟨b1, b2, b3⟩ := show_lenA xs h.2
    refine ⟨by simp only [PyData.showableAll, a1, b1, Bool.and_self], by simp only [PyData.hasDictAll, a2, b2, Bool.or_self], ?_⟩
    simp only [PyData.shownAll, List.map_cons, List.sum_cons, List.length_cons, countAll]
    omega
end
theorem shortAll_map {α : Type} (f : α → PyData) : ∀ xs : List α, (∀ x ∈ xs, short (f x) = true) → shortAll (xs.map f) = true
  | [], _ => rfl
  | x :: r, h => by
    simp only [List.map_cons, shortAll, h x List.mem_cons_self, shortAll_map f r fun y hy => h y (List.mem_cons_of_mem _ hy), Bool.and_self]
theorem countAll_map {α : Type} (f : α → PyData) (k : Nat) : ∀ xs : List α, (∀ x ∈ xs, count (f x) ≤ k) → countAll (xs.map f) ≤ xs.length * (k + 1)
  | [], _ => by simp [countAll]
  | x :: r, h => by
    have h1 := h x List.mem_cons_self
    have h2 := countAll_map f k r fun y hy => h y (List.mem_cons_of_mem _ hy)
    simp only [List.map_cons, countAll, List.length_cons, Nat.succ_mul]
    omega
theorem depthAll_map {α : Type} (f : α → PyData) (k : Nat) : ∀ xs : List α, (∀ x ∈ xs, (f x).depth ≤ k) → PyData.depthAll (xs.map f) ≤ k
  | [], _ => by simp [PyData.depthAll]
  | x :: r, h => by
    have h1 := h x List.mem_cons_self
    have h2 := depthAll_map f k r fun y hy => h y (List.mem_cons_of_mem _ hy)
    simp only [List.map_cons, PyData.depthAll]
    omega
theorem showOk_of {d : PyData} (h1 : short d = true) (h2 : count d ≤ 10000) (h3 : d.depth ≤ 64) : showOk d := by
  obtain ⟨a, b, c⟩ := show_len d h1
  exact ⟨a, b, h3, Nat.le_trans c (by rw [sizeLine_eq]; omega)⟩
def Sm (k n : Nat) (d : PyData) : Prop := short d = true ∧ count d ≤ k ∧ d.depth ≤ n
theorem sm_int {i : Int} (h0 : 0 ≤ i) (h1 : i < 100000) : Sm 0 0 (.int i) := ⟨by simp [short, h0, h1], by simp [count], by simp [PyData.depth]⟩
theorem sm_tup {α : Type} {f : α → PyData} {xs : List α} {k n m : Nat} (h : ∀ x ∈ xs, Sm k n (f x)) (hm : xs.length ≤ m) : Sm (m * (k + 1)) (n + 1) (.tuple (xs.map f)) := by
  refine ⟨by simp only [short]; exact shortAll_map f xs fun x hx => (h x hx).1, ?_, ?_⟩
  · simp only [count]
    exact Nat.le_trans (countAll_map f k xs fun x hx => (h x hx).2.1) (Nat.mul_le_mul_right _ hm)
  · simp only [PyData.depth]
    have := depthAll_map f n xs fun x hx => (h x hx).2.2
    omega
theorem sm_two {a b : PyData} {k1 n1 k2 n2 : Nat} (h1 : Sm k1 n1 a) (h2 : Sm k2 n2 b) : Sm (k1 + k2 + 2) (max n1 n2 + 1) (.tuple [a, b]) ∧ Sm (k1 + k2 + 2) (max n1 n2 + 1) (.list [a, b]) := by
  have c1 := h1.2.1
  have c2 := h2.2.1
  have d1 := h1.2.2
  have d2 := h2.2.2
  refine ⟨⟨?_, ?_, ?_⟩, ⟨?_, ?_, ?_⟩⟩
  · simp only [short, shortAll, h1.1, h2.1, Bool.and_self]
  · simp only [count, countAll]; omega
  · simp only [PyData.depth, PyData.depthAll]; omega
  · simp only [short, shortAll, h1.1, h2.1, Bool.and_self]
  · simp only [count, countAll]; omega
  · simp only [PyData.depth, PyData.depthAll]; omega
theorem Sm.ok {k n : Nat} {d : PyData} (h : Sm k n d) (hk : k ≤ 10000) (hn : n ≤ 64) : showOk d := showOk_of h.1 (Nat.le_trans h.2.1 hk) (Nat.le_trans h.2.2 hn)
theorem sm_rule {m : Int} {r : Rule} (hm : m ≤ 5) (h : RuleOk m r) : Sm 7 2 (ruleD r) := by
  have h1 : Sm 5 1 (iT r.1) := sm_tup (k := 0) (n := 0) (m := 5) (fun c hc => sm_int (h.cols.inn c hc).1 (by have := (h.cols.inn c hc).2; omega)) h.cols.few
  have := (sm_two h1 (sm_int h.lo (by have := h.hi; omega))).1
  exact ⟨this.1, Nat.le_trans this.2.1 (by decide), Nat.le_trans this.2.2 (by decide)⟩
theorem sm_rules {m : Int} {rs : List Rule} (hm : m ≤ 5) (h : RulesOk m rs) : Sm 64 3 (rulesD rs) := sm_tup (m := 8) (fun r hr => sm_rule hm (h.all r hr)) h.few
end B
namespace B
open PySem PySem.Spec PyProof.Rows L2 Dw
abbrev Marks := List (List Nat)
def cel (rs : List Cells) (i c : Nat) : Option Int := at_ (rs.getD i []) (c : Nat)
def mrk (G : Marks) (c i : Nat) : Nat := (G.getD c []).getD i 0
inductive Jn (m : Nat) (rs : List Cells) (rl : List Rule) : Nat → Nat → Nat → Prop
  | refl {c i : Nat} : c < m → i < rs.length → Jn m rs rl c i i
  | val {c i j : Nat} {v : Int} : c < m → i < rs.length → j < rs.length → cel rs i c = some v → cel rs j c = some v → Jn m rs rl c i j
  | symm {c i j : Nat} : Jn m rs rl c i j → Jn m rs rl c j i
  | trans {c i j k : Nat} : Jn m rs rl c i j → Jn m rs rl c j k → Jn m rs rl c i k
  | step {r : Rule} {i j : Nat} : r ∈ rl → r.2.toNat < m → i < rs.length → j < rs.length → (∀ g ∈ r.1, Jn m rs rl g.toNat i j) → Jn m rs rl r.2.toNat i j
structure Shp (m n : Nat) (G : Marks) : Prop where
  cols : G.length = m
  rows : ∀ col ∈ G, col.length = n
structure IG (m : Nat) (rs : List Cells) (rl : List Rule) (G : Marks) : Prop where
  shp : Shp m rs.length G
  le : ∀ c i, c < m → i < rs.length → mrk G c i ≤ i ∧ mrk G c (mrk G c i) = mrk G c i
  snd : ∀ c i j, c < m → i < rs.length → j < rs.length → mrk G c i = mrk G c j → Jn m rs rl c i j
  base : ∀ c i j v, c < m → i < rs.length → j < rs.length → cel rs i c = some v → cel rs j c = some v → mrk G c i = mrk G c j
structure JM (m : Nat) (rs : List Cells) (rl : List Rule) (G : Marks) : Prop where
  shp : Shp m rs.length G
  le : ∀ c i, c < m → i < rs.length → mrk G c i ≤ i ∧ mrk G c (mrk G c i) = mrk G c i
  iff : ∀ c i j, c < m → i < rs.length → j < rs.length → (mrk G c i = mrk G c j ↔ Jn m rs rl c i j)
def ClosedAt (G : Marks) (r : Rule) (lo hi : Nat) : Prop := (∀ g ∈ r.1, mrk G g.toNat lo = mrk G g.toNat hi) → mrk G r.2.toNat lo = mrk G r.2.toNat hi
section
variable {m : Nat} {rs : List Cells} {rl : List Rule} {G G' : Marks}
theorem Shp.at {m n : Nat} (h : Shp m n G) {c : Nat} (hc : c < m) : G[c]? = some (G.getD c []) ∧ (G.getD c []).length = n := by
  have hl : c < G.length := by rw [h.cols]; exact hc
  have e : G[c]? = some (G.getD c []) := by rw [List.getD_eq_getElem?_getD, List.getElem?_eq_getElem hl]; rfl
  exact ⟨e, h.rows _ (List.mem_of_getElem? e)⟩
theorem IG.done (h : IG m rs rl G) (cl : ∀ r ∈ rl, ∀ lo hi, lo < hi → hi < rs.length → ClosedAt G r lo hi) : JM m rs rl G := by
  refine ⟨h.shp, h.le, fun c i j hc hi hj => ⟨h.snd c i j hc hi hj, fun jn => ?_⟩⟩
  have key : ∀ {c i j}, Jn m rs rl c i j → mrk G c i = mrk G c j := by
    intro c i j jn
    induction jn with
    | refl _ _ => rfl
    | val hc hi hj e1 e2 => exact h.base _ _ _ _ hc hi hj e1 e2
    | symm _ ih => exact ih.symm
    | trans _ _ ih1 ih2 => exact ih1.trans ih2
    | @step r i j hr ht hi hj _ ih =>
      rcases Nat.lt_trichotomy i j with z | z | z
      · exact cl r hr i j z hj ih
      · rw [z]
      · exact (cl r hr j i z hi fun g hg => (ih g hg).symm).symm
  exact key jn
theorem JM.uniq (h : JM m rs rl G) (h' : JM m rs rl G') : G = G' := by
  have mle : ∀ {G G' : Marks}, JM m rs rl G → JM m rs rl G' → ∀ c i, c < m → i < rs.length → mrk G' c i ≤ mrk G c i := by
    intro G G' h h' c i hc hi
    have l := h.le c i hc hi
    have hi2 : mrk G c i < rs.length := by omega
    have j := (h.iff c (mrk G c i) i hc hi2 hi).mp l.2
    have e := (h'.iff c (mrk G c i) i hc hi2 hi).mpr j
    have := (h'.le c (mrk G c i) hc hi2).1
    omega
  apply List.ext_getElem?
  intro c
  by_cases hc : c < m
  · obtain ⟨e1, l1⟩ := h.shp.at hc
    obtain ⟨e2, l2⟩ := h'.shp.at hc
    rw [e1, e2]
    congr 1
    apply List.ext_getElem?
    intro i
    by_cases hi : i < rs.length
    · have a := mle h h' c i hc hi
      have b := mle h' h c i hc hi
      have e : mrk G c i = mrk G' c i := by omega
      unfold mrk at e
      rw [List.getD_eq_getElem?_getD, List.getD_eq_getElem?_getD (l := G'.getD c [])] at e
      rw [List.getElem?_eq_getElem (by omega), List.getElem?_eq_getElem (by omega)] at e ⊢
      exact congrArg some e
    · rw [List.getElem?_eq_none (by omega), List.getElem?_eq_none (by omega)]
  · rw [List.getElem?_eq_none (by rw [h.shp.cols]; omega), List.getElem?_eq_none (by rw [h'.shp.cols]; omega)]
def lower (a b x : Nat) : Nat := if x = b then a else x
def stepG (G : Marks) (t lo hi : Nat) : Marks := G.set t ((G.getD t []).map (lower (min (mrk G t lo) (mrk G t hi)) (max (mrk G t lo) (mrk G t hi))))
theorem step_mk {m n : Nat} (h : Shp m n G) {t lo hi : Nat} (ht : t < m) (c i : Nat) (hc : c < m) (hi' : i < n) :
    mrk (stepG G t lo hi) c i = if c = t then lower (min (mrk G t lo) (mrk G t hi)) (max (mrk G t lo) (mrk G t hi)) (mrk G c i) else mrk G c i := by
  unfold stepG
  generalize ha : min (mrk G t lo) (mrk G t hi) = a
  generalize hb : max (mrk G t lo) (mrk G t hi) = b
  unfold mrk
  obtain ⟨e1, l1⟩ := h.at hc
  by_cases q : c = t
  · subst q
    rw [if_pos rfl, List.getD_eq_getElem?_getD (l := G.set c _), List.getElem?_set_self (by rw [h.cols]; exact ht)]
    simp only [Option.getD_some]
    rw [List.getD_eq_getElem?_getD, List.getElem?_map, List.getD_eq_getElem?_getD (l := G.getD c [])]
    rw [List.getElem?_eq_getElem (by omega)]
    rfl
  · rw [if_neg q, List.getD_eq_getElem?_getD (l := G.set t _), List.getElem?_set_ne (fun z => q z.symm), e1]
    rfl
theorem step_shp {m n : Nat} (h : Shp m n G) {t lo hi : Nat} (ht : t < m) : Shp m n (stepG G t lo hi) := by
  refine ⟨by unfold stepG; rw [List.length_set]; exact h.cols, fun col hcol => ?_⟩
  unfold stepG at hcol
  rcases List.mem_or_eq_of_mem_set hcol with q | q
  · exact h.rows col q
  · rw [q, List.length_map]; exact (h.at ht).2
theorem IG.step (h : IG m rs rl G) {r : Rule} (hr : r ∈ rl) {lo hi : Nat} (ht : r.2.toNat < m) (hlo : lo < rs.length) (hhi : hi < rs.length) (hg : ∀ g ∈ r.1, g.toNat < m) (able : ∀ g ∈ r.1, mrk G g.toNat lo = mrk G g.toNat hi) (ne : mrk G r.2.toNat lo ≠ mrk G r.2.toNat hi) :
    IG m rs rl (stepG G r.2.toNat lo hi) := by
  have sm := step_mk h.shp (lo := lo) (hi := hi) ht
  have l1 := h.le _ lo ht hlo
  have l2 := h.le _ hi ht hhi
  generalize ea : min (mrk G r.2.toNat lo) (mrk G r.2.toNat hi) = a at sm
  generalize eb : max (mrk G r.2.toNat lo) (mrk G r.2.toNat hi) = b at sm
  have hab : a < b := by omega
  have fa : mrk G r.2.toNat a = a := by
    rcases Nat.le_total (mrk G r.2.toNat lo) (mrk G r.2.toNat hi) with z | z
    · rw [Nat.min_eq_left z] at ea; rw [← ea]; exact l1.2
    · rw [Nat.min_eq_right z] at ea; rw [← ea]; exact l2.2
  have jn : Jn m rs rl r.2.toNat lo hi := .step hr ht hlo hhi fun g hg' => h.snd _ _ _ (hg g hg') hlo hhi (able g hg')
  have jab : ∀ i j, i < rs.length → j < rs.length → mrk G r.2.toNat i = a → mrk G r.2.toNat j = b → Jn m rs rl r.2.toNat i j := fun i j hi' hj' e1 e2 => by
    rcases Nat.le_total (mrk G r.2.toNat lo) (mrk G r.2.toNat hi) with z | z
    · rw [Nat.min_eq_left z] at ea
      rw [Nat.max_eq_right z] at eb
      exact (h.snd _ _ _ ht hi' hlo (e1.trans ea.symm)).trans (jn.trans (h.snd _ _ _ ht hhi hj' (eb.trans e2.symm)))
    · rw [Nat.min_eq_right z] at ea
      rw [Nat.max_eq_left z] at eb
      exact (h.snd _ _ _ ht hi' hhi (e1.trans ea.symm)).trans (jn.symm.trans (h.snd _ _ _ ht hlo hj' (eb.trans e2.symm)))
  refine ⟨step_shp h.shp ht, fun c i hc hi' => ?_, fun c i j hc hi' hj' e => ?_, fun c i j v hc hi' hj' e1 e2 => ?_⟩
  · have l := h.le c i hc hi'
    rw [sm c i hc hi']
    by_cases q : c = r.2.toNat
    · rw [if_pos q]
      unfold lower
      by_cases w : mrk G c i = b
      · rw [if_pos w]
        have ha : a < rs.length := by omega
        refine ⟨by omega, ?_⟩
        rw [sm c a hc ha, if_pos q]
        unfold lower
        rw [q, fa, if_neg (by omega)]
      · rw [if_neg w]
        refine ⟨l.1, ?_⟩
        rw [sm c _ hc (by omega), if_pos q]
        unfold lower
        rw [l.2, if_neg w]
    · rw [if_neg q]
      refine ⟨l.1, ?_⟩
      rw [sm c _ hc (by omega), if_neg q]
      exact l.2
  · rw [sm c i hc hi', sm c j hc hj'] at e
    by_cases q : c = r.2.toNat
    · rw [if_pos q, if_pos q] at e
      unfold lower at e
      subst q
      by_cases w1 : mrk G r.2.toNat i = b <;> by_cases w2 : mrk G r.2.toNat j = b
      · exact h.snd _ _ _ hc hi' hj' (w1.trans w2.symm)
      · rw [if_pos w1, if_neg w2] at e
        exact (jab j i hj' hi' e.symm w1).symm
      · rw [if_neg w1, if_pos w2] at e
        exact jab i j hi' hj' e w2
      · rw [if_neg w1, if_neg w2] at e
        exact h.snd _ _ _ hc hi' hj' e
    · rw [if_neg q, if_neg q] at e
      exact h.snd _ _ _ hc hi' hj' e
  · have e := h.base c i j v hc hi' hj' e1 e2
    rw [sm c i hc hi', sm c j hc hj', e]
def initCol (cs : Cells) : List Nat := cs.zipIdx.map fun p => match p.1 with
  | none => p.2
  | some v => cs.findIdx fun z => decide (z = some v)
def colOf (rs : List Cells) (c : Nat) : Cells := rs.map fun r => at_ r (c : Nat)
def initG (m : Nat) (rs : List Cells) : Marks := (List.range m).map fun c => initCol (colOf rs c)
end
end B
namespace B
open PySem PySem.Spec PyProof.Rows L2 Dw
local macro_rules | `(tactic| walk_at "ds") => `(tactic| try dsimp only [wRet, wRetN, wThen, wIfS, wIf, wNotT, wTru, wB, w2, wV, wC, wCons, wNil, wCall, wCallO, wCallO1, endO, wCB, wLc, wSeq, wYes, wNext, wNever, wDrop, wSet, wAsg, wPair, wFor, wTup, wLst, wAndV, wOrV, wNotV, wNeg, wAndT, wOrT, wIsi, wChain, wSlice, wPart, wNo, wZip, wEnum, wRng1, wRng2, wLc2, wApp, wApp1, wPop, wPop1, wExt, wExt1, wSetI, wSetI1, wSetD, wIdx, wIdx1, wExtL, wExtL1, wLenM, wNotInM, wGetM, wPutM, wPutM1, wSetK, wTri, wForget, rCatTD, rCatLD, intsR, Option.map_some, bN, bTup, bCons, bNil, as_d, as_l, as_b, noB_d, noB_l, still_d, still_l, still_b, put_d, put_l, tru_bool, tru_tup, tru_lst, isT_tup, isI_int, isB_int, stillA_nil, stillA_cons, map0, map1, map2, map3, len_l, len_t, tup_l, tup_t, lst_l, lst_t, max_i, min_i, List.all_cons, List.all_nil, Bool.and_self, Bool.and_true, Bool.not_true, Bool.not_false, List.getElem?_cons_zero, List.getElem?_cons_succ, List.cons_append, List.nil_append, List.append_nil, List.reduceReplicate, Nat.reduceSub, Nat.sub_self, rI1, rI2, rAddD, rSubD, rMulD, rDivD, rModD, rPowD, rLtD, rLeD, rGtD, rGeD, List.set_cons_zero, List.set_cons_succ, List.set_nil, endsOf, outD, wipeD])
section
variable {b : WB} {t : WT} {el : WE} {vs : List Nat} {k : List PyData → Dl → Prop} {δ : Dl} {wb : WS} {P : DEnds}
theorem go_filT {α : Type} (f : α → PyData) (tx : α → Bool) (g : α → PyData) : ∀ (xs : List α) (acc : List PyData),
    (∀ x ∈ xs, ∀ (C : PyData → Dl → Prop) (C' : Dl → Prop), (tx x = true → C (g x) δ) → (tx x = false → C' δ) → b (f x) δ fun δ1 => t δ1 fun c δ2 => if c = true then el δ2 fun y δ3 => noB y = true ∧ C y.as (wipeD δ3 vs) else C' (wipeD δ2 vs)) →
    k (acc ++ (xs.filter tx).map g) δ → wGo b t el vs k (xs.map f) acc δ
  | [], acc, _, h => by
    have h : k (acc ++ []) δ := h
    rw [List.append_nil] at h
    exact h
  | x :: r, acc, ht, h => by
    refine ht x List.mem_cons_self (fun y δ3 => wGo b t el vs k (r.map f) (acc ++ [y]) δ3) (fun δ2 => wGo b t el vs k (r.map f) acc δ2) (fun e => ?_) (fun e => ?_)
    · refine go_filT f tx g r _ (fun z hz => ht z (List.mem_cons_of_mem _ hz)) ?_
      rw [List.filter_cons_of_pos e, List.map_cons] at h
      rw [List.append_assoc]
      exact h
    · refine go_filT f tx g r _ (fun z hz => ht z (List.mem_cons_of_mem _ hz)) ?_
      rw [List.filter_cons_of_neg (by rw [e]; decide)] at h
      exact h
theorem go_mapT {α : Type} (f : α → PyData) (g : α → PyData) (xs : List α)
    (ht : ∀ x ∈ xs, ∀ (C : PyData → Dl → Prop) (C' : Dl → Prop), C (g x) δ → b (f x) δ fun δ1 => t δ1 fun c δ2 => if c = true then el δ2 fun y δ3 => noB y = true ∧ C y.as (wipeD δ3 vs) else C' (wipeD δ2 vs)) (h : k (xs.map g) δ) : wGo b t el vs k (xs.map f) [] δ := by
  refine go_filT f (fun _ => true) g xs [] (fun x hx C C' h1 _ => ht x hx C C' (h1 rfl)) ?_
  rw [List.filter_eq_self.mpr (by simp), List.nil_append]
  exact h
theorem loopT {α : Type} (f : α → PyData) (xs : List α) (I : Nat → Dl → Prop) (h0 : I 0 δ) (turn : ∀ n x δ (C : Dl → Prop), xs[n]? = some x → I n δ → (∀ δ', I (n + 1) δ' → C δ') → b (f x) δ fun δ1 => wb { P with nx := C, ct := C, bk := P.nx } δ1)
    (hn : ∀ δ, I xs.length δ → P.nx δ) : wLoop b wb P (xs.map f) δ := by
  refine loop_inv I (xs.map f) ?_ _ _ 0 rfl (Nat.zero_le _) h0 (by rw [List.length_map]; exact hn)
  intro n x δ C hx hi hC
  rw [List.getElem?_map] at hx
  cases q : xs[n]? with
  | none => rw [q] at hx; cases hx
  | some y =>
    rw [q] at hx
    cases hx
    exact turn n y δ C q hi hC
theorem loopR {lo : Int} (n : Nat) (I : Nat → Dl → Prop) (h0 : I 0 δ) (turn : ∀ i δ (C : Dl → Prop), i < n → I i δ → (∀ δ', I (i + 1) δ' → C δ') → b (.int (lo + (i : Nat))) δ fun δ1 => wb { P with nx := C, ct := C, bk := P.nx } δ1)
    (hn : ∀ δ, I n δ → P.nx δ) : wLoop b wb P (rangeD lo n) δ := by
  rw [rangeD_eq]
  refine loopT _ (List.range n) I h0 (fun i x δ C hx hi hC => ?_) (by rw [List.length_range]; exact hn)
  have hlt : i < n := by
    have := (List.getElem?_eq_some_iff.mp hx).1
    rw [List.length_range] at this
    exact this
  rw [List.getElem?_range hlt] at hx
  cases hx
  exact turn i δ C hlt hi hC
end
theorem i0 (i : Nat) : (0 : Int) + (i : Nat) = (i : Nat) := Int.zero_add _
theorem seqT {w w' : WS} {P : DEnds} {δ : Dl} (h : ∀ T : Dl → Prop, (T = fun δ1 => w' P δ1) → w { P with nx := T } δ) : wThen w w' P δ := h _ rfl
end B
namespace B
open PySem PySem.Spec PyProof.Rows L2 Dw
local macro_rules | `(tactic| walk_at "ds") => `(tactic| try dsimp only [wRet, wRetN, wThen, wIfS, wIf, wNotT, wTru, wB, w2, wV, wC, wCons, wNil, wCall, wCallO, wCallO1, endO, wCB, wLc, wSeq, wYes, wNext, wNever, wDrop, wSet, wAsg, wPair, wFor, wTup, wLst, wAndV, wOrV, wNotV, wNeg, wAndT, wOrT, wIsi, wChain, wSlice, wPart, wNo, wZip, wEnum, wRng1, wRng2, wLc2, wApp, wApp1, wPop, wPop1, wExt, wExt1, wSetI, wSetI1, wSetD, wIdx, wIdx1, wExtL, wExtL1, wLenM, wNotInM, wGetM, wPutM, wPutM1, wSetK, wTri, wForget, rCatTD, rCatLD, intsR, Option.map_some, bN, bTup, bCons, bNil, as_d, as_l, as_b, noB_d, noB_l, still_d, still_l, still_b, put_d, put_l, tru_bool, tru_tup, tru_lst, isT_tup, isI_int, isB_int, stillA_nil, stillA_cons, map0, map1, map2, map3, len_l, len_t, tup_l, tup_t, lst_l, lst_t, max_i, min_i, List.all_cons, List.all_nil, Bool.and_self, Bool.and_true, Bool.not_true, Bool.not_false, List.getElem?_cons_zero, List.getElem?_cons_succ, List.cons_append, List.nil_append, List.append_nil, List.reduceReplicate, Nat.reduceSub, Nat.sub_self, rI1, rI2, rAddD, rSubD, rMulD, rDivD, rModD, rPowD, rLtD, rLeD, rGtD, rGeD, List.set_cons_zero, List.set_cons_succ, List.set_nil, endsOf, outD, wipeD])
theorem in_ints (v : Int) (l : List Int) : inD (.int v) (l.map PyData.int) = decide (v ∈ l) := by
  unfold inD
  rw [List.any_map]
  have e : ((fun y => PyData.eqv y (.int v)) ∘ PyData.int) = fun a => decide (a = v) := by
    funext a
    exact eqv_int a v
  rw [e]
  induction l with
  | nil => rfl
  | cons a l ih =>
    rw [List.any_cons, ih]
    by_cases q : a = v
    · subst q; simp
    · have : decide (a = v) = false := decide_eq_false q
      rw [this, Bool.false_or]
      exact decide_eq_decide.mpr ⟨fun z => List.mem_cons_of_mem _ z, fun z => (List.mem_cons.mp z).resolve_left fun w => q w.symm⟩
theorem flat_intsL (l : List Int) : (l.map PyData.int).all flat = true := by
  rw [List.all_eq_true]
  intro x hx
  obtain ⟨c, _, rfl⟩ := List.mem_map.mp hx
  rfl
end B
namespace B
open PySem PySem.Spec PyProof.Rows L2 Dw
local macro_rules | `(tactic| walk_at "ds") => `(tactic| try dsimp only [wRet, wRetN, sPu, wThenX, wIfX, wRetX, wDropX, wSetX, wCallX, wCallP, uPu, wPu, uConsX, wRaise, wDc, wGet1, wGet2, wGetT, wThen, wIfS, wIf, wNotT, wTru, wB, w2, wV, wC, wCons, wNil, wCall, wCallO, wCallO1, endO, wCB, wLc, wSeq, wYes, wNext, wNever, wDrop, wSet, wAsg, wPair, wFor, wTup, wLst, wAndV, wOrV, wNotV, wNeg, wAndT, wOrT, wIsi, wChain, wSlice, wPart, wNo, wZip, wEnum, wRng1, wRng2, wLc2, wApp, wApp1, wPop, wPop1, wExt, wExt1, wSetI, wSetI1, wSetD, wIdx, wIdx1, wExtL, wExtL1, wLenM, wNotInM, wGetM, wPutM, wPutM1, wSetK, wTri, wForget, rCatTD, rCatLD, intsR, Option.map_some, bN, bTup, bCons, bNil, as_d, as_l, as_b, noB_d, noB_l, still_d, still_l, still_b, put_d, put_l, tru_bool, tru_tup, tru_lst, isT_tup, isI_int, isB_int, stillA_nil, stillA_cons, map0, map1, map2, map3, len_l, len_t, tup_l, tup_t, lst_l, lst_t, max_i, min_i, List.all_cons, List.all_nil, Bool.and_self, Bool.and_true, Bool.not_true, Bool.not_false, List.getElem?_cons_zero, List.getElem?_cons_succ, List.cons_append, List.nil_append, List.append_nil, List.reduceReplicate, Nat.reduceSub, Nat.sub_self, rI1, rI2, rAddD, rSubD, rMulD, rDivD, rModD, rPowD, rLtD, rLeD, rGtD, rGeD, List.set_cons_zero, List.set_cons_succ, List.set_nil, endsOf, outD, wipeD])
def lotStep (G : Marks) (c : Nat) (acc : List (Int × Int)) (p : Cells × Nat) : List (Int × Int) := match at_ p.1 (c : Nat) with
  | some v => putI acc ((mrk G c p.2 : Nat) : Int) v
  | none => acc
def lotK (rs : List Cells) (G : Marks) (c : Nat) : List (Int × Int) := rs.zipIdx.foldl (lotStep G c) []
def kn (rs : List Cells) (G : Marks) (i c : Nat) : Option Int := lookI (lotK rs G c) ((mrk G c i : Nat) : Int)
section
variable {b b1 : WB} {t t1 : WT} {el wk wv : WE} {wi1 : WI} {vs vs1 : List Nat} {k : List PyData → Dl → Prop} {kd : List (Int × Int) → Dl → Prop} {δ : Dl}
end
theorem look_put {κ : Type} [DecidableEq κ] (kvs : List (κ × Int)) (k j : κ) (v : Int) : lookI (putI kvs k v) j = if j = k then some v else lookI kvs j := by
  unfold putI
  split
  · rename_i h
    unfold lookI
    induction kvs with
    | nil => simp at h
    | cons p r ih =>
      rw [List.map_cons, List.find?_cons, List.find?_cons]
      by_cases e : p.1 = k
      · rw [if_pos e]
        by_cases ej : j = k
        · subst ej
          simp [e]
        · have n1 : ¬ p.1 = j := fun z => ej (z.symm.trans e)
          rw [if_neg ej]
          simp only [n1, decide_false]
          by_cases hr : (r.any fun p => decide (p.1 = k)) = true
          · have := ih hr
            rw [if_neg ej] at this
            exact this
          · have e2 : (r.map fun p => if p.1 = k then (p.1, v) else p) = r := by
              rw [List.map_congr_left (g := id), List.map_id]
              intro q hq
              have : ¬ q.1 = k := fun z => hr (List.any_eq_true.mpr ⟨q, hq, decide_eq_true z⟩)
              rw [if_neg this]; rfl
            rw [e2]
      · rw [if_neg e]
        have hr : (r.any fun p => decide (p.1 = k)) = true := by
          rw [List.any_cons] at h
          simpa [e] using h
        have := ih hr
        by_cases ej : p.1 = j
        · have : ¬ j = k := fun z => e (ej.trans z)
          rw [if_neg this]
          simp [ej]
        · simp only [ej, decide_false]
          exact this
  · rename_i h
    unfold lookI
    rw [List.find?_append]
    by_cases ej : j = k
    · subst ej
      rw [if_pos rfl]
      have : kvs.find? (fun p => decide (p.1 = j)) = none := by
        rw [List.find?_eq_none]
        intro q hq z
        exact h (List.any_eq_true.mpr ⟨q, hq, z⟩)
      rw [this]
      simp
    · rw [if_neg ej]
      have : ([(k, v)] : List (κ × Int)).find? (fun p => decide (p.1 = j)) = none := by
        have n2 : ¬ k = j := fun z => ej z.symm
        simp [n2]
      rw [this]
      simp
theorem lot_fold {G : Marks} {c : Nat} (f : Int) : ∀ (ps : List (Cells × Nat)) (acc : List (Int × Int)),
    (lookI (ps.foldl (lotStep G c) acc) f = none → lookI acc f = none ∧ ∀ p ∈ ps, ((mrk G c p.2 : Nat) : Int) = f → at_ p.1 (c : Nat) = none) ∧
    ∀ v, lookI (ps.foldl (lotStep G c) acc) f = some v → lookI acc f = some v ∨ ∃ p ∈ ps, ((mrk G c p.2 : Nat) : Int) = f ∧ at_ p.1 (c : Nat) = some v
  | [], acc => ⟨fun h => ⟨h, fun p hp => by simp at hp⟩, fun v h => .inl h⟩
  | p :: ps, acc => by
    obtain ⟨h1, h2⟩ := lot_fold f ps (lotStep G c acc p)
    rw [List.foldl_cons]
    have st : lookI (lotStep G c acc p) f = match at_ p.1 (c : Nat) with | some v => if f = ((mrk G c p.2 : Nat) : Int) then some v else lookI acc f | none => lookI acc f := by
      unfold lotStep
      cases at_ p.1 (c : Nat) with
      | none => rfl
      | some v => exact look_put _ _ _ _
    refine ⟨fun h => ?_, fun v h => ?_⟩
    · obtain ⟨a, b⟩ := h1 h
      rw [st] at a
      cases e : at_ p.1 (c : Nat) with
      | none =>
        rw [e] at a
        refine ⟨a, fun q hq z => ?_⟩
        rcases List.mem_cons.mp hq with rfl | hq
        · exact e
        · exact b q hq z
      | some v =>
        rw [e] at a
        by_cases z : f = ((mrk G c p.2 : Nat) : Int)
        · simp [z] at a
        · simp only [z, if_false] at a
          refine ⟨a, fun q hq w => ?_⟩
          rcases List.mem_cons.mp hq with rfl | hq
          · exact absurd w.symm z
          · exact b q hq w
    · rcases h2 v h with a | ⟨q, hq, a⟩
      · rw [st] at a
        cases e : at_ p.1 (c : Nat) with
        | none => rw [e] at a; exact .inl a
        | some u =>
          rw [e] at a
          by_cases z : f = ((mrk G c p.2 : Nat) : Int)
          · simp only [z, if_true] at a
            cases a
            exact .inr ⟨p, List.mem_cons_self, z.symm, e⟩
          · simp only [z, if_false] at a
            exact .inl a
      · exact .inr ⟨q, List.mem_cons_of_mem _ hq, a⟩
theorem mem_zipI {rs : List Cells} {p : Cells × Nat} (h : p ∈ rs.zipIdx) : p.2 < rs.length ∧ p.1 = rs.getD p.2 [] := by
  obtain ⟨r, i⟩ := p
  have := List.mem_zipIdx h
  simp only [Nat.zero_add, Nat.sub_zero] at this
  refine ⟨this.2.1, ?_⟩
  rw [List.getD_eq_getElem?_getD, List.getElem?_eq_getElem this.2.1]
  exact this.2.2
theorem kn_some {rs : List Cells} {G : Marks} {i c : Nat} {v : Int} (h : kn rs G i c = some v) : ∃ j, j < rs.length ∧ mrk G c j = mrk G c i ∧ cel rs j c = some v := by
  rcases (lot_fold _ rs.zipIdx []).2 v h with z | ⟨p, hp, e1, e2⟩
  · simp [lookI] at z
  · obtain ⟨h1, h2⟩ := mem_zipI hp
    exact ⟨p.2, h1, by omega, by unfold cel; rw [← h2]; exact e2⟩
theorem cel_at {m : Int} {rs : List Cells} (ht : TabOk m rs) {i c : Nat} (hi : i < rs.length) (hc : c < m.toNat) : ∃ h : c < (rs.getD i []).length, cel rs i c = (rs.getD i [])[c] := by
  have e : rs.getD i [] ∈ rs := by
    rw [List.getD_eq_getElem?_getD, List.getElem?_eq_getElem hi]
    exact List.getElem_mem _
  have l := (ht.rows _ e).1
  have h : c < (rs.getD i []).length := by omega
  refine ⟨h, ?_⟩
  unfold cel at_
  rw [Int.toNat_natCast, List.getD_eq_getElem?_getD (l := rs.getD i []), List.getElem?_eq_getElem h]
  rfl
end B
namespace B
open PySem PySem.Spec PyProof.Rows L2 Dw
local macro_rules | `(tactic| walk_at "ds") => `(tactic| try dsimp only [wRet, wRetN, sPu, wThenX, wIfX, wRetX, wDropX, wSetX, wCallX, wCallP, uPu, wPu, uConsX, wRaise, wDc, wDcT, wDZ, wD1, wGet1, wGet2, wGetT, wThen, wIfS, wIf, wNotT, wTru, wB, w2, wV, wC, wCons, wNil, wCall, wCallO, wCallO1, endO, wCB, wLc, wSeq, wYes, wNext, wNever, wDrop, wSet, wAsg, wPair, wFor, wTup, wLst, wAndV, wOrV, wNotV, wNeg, wAndT, wOrT, wIsi, wChain, wSlice, wPart, wNo, wZip, wEnum, wRng1, wRng2, wLc2, wApp, wApp1, wPop, wPop1, wExt, wExt1, wSetI, wSetI1, wSetD, wIdx, wIdx1, wExtL, wExtL1, wLenM, wNotInM, wGetM, wPutM, wPutM1, wSetK, wTri, wForget, rCatTD, rCatLD, intsR, Option.map_some, bN, bTup, bCons, bNil, as_d, as_l, as_b, noB_d, noB_l, still_d, still_l, still_b, put_d, put_l, tru_bool, tru_tup, tru_lst, isT_tup, isI_int, isB_int, stillA_nil, stillA_cons, map0, map1, map2, map3, len_l, len_t, tup_l, tup_t, lst_l, lst_t, max_i, min_i, List.all_cons, List.all_nil, Bool.and_self, Bool.and_true, Bool.not_true, Bool.not_false, List.getElem?_cons_zero, List.getElem?_cons_succ, List.cons_append, List.nil_append, List.append_nil, List.reduceReplicate, Nat.reduceSub, Nat.sub_self, rI1, rI2, rAddD, rSubD, rMulD, rDivD, rModD, rPowD, rLtD, rLeD, rGtD, rGeD, List.set_cons_zero, List.set_cons_succ, List.set_nil, endsOf, outD, wipeD])
theorem kn_ok0 {m : Int} {rs : List Cells} {G : Marks} (ht : TabOk m rs) {i c : Nat} (hc : c < m.toNat) : CellOk (kn rs G i c) := fun v e => by
  obtain ⟨j, hj, _, q⟩ := kn_some e
  obtain ⟨h, e2⟩ := cel_at ht hj hc
  have hx : rs.getD j [] ∈ rs := by
    rw [List.getD_eq_getElem?_getD, List.getElem?_eq_getElem hj]
    exact List.getElem_mem _
  exact (ht.rows _ hx).2 _ (List.getElem_mem h) v (by rw [← e2]; exact q)
end B
namespace B
open PySem PySem.Spec PyProof.Rows L2 Dw
local macro_rules | `(tactic| walk_at "ds") => `(tactic| try dsimp only [wRet, wRetN, sPu, wThenX, wIfX, wRetX, wDropX, wSetX, wCallX, wCallP, uPu, wPu, uConsX, wRaise, wDc, wDcT, wDZ, wD1, wGet1, wGet2, wGetT, wThen, wIfS, wIf, wNotT, wTru, wB, w2, wV, wC, wCons, wNil, wCall, wCallO, wCallO1, endO, wCB, wLc, wSeq, wYes, wNext, wNever, wDrop, wSet, wAsg, wPair, wFor, wTup, wLst, wAndV, wOrV, wNotV, wNeg, wAndT, wOrT, wIsi, wChain, wSlice, wPart, wNo, wZip, wEnum, wRng1, wRng2, wLc2, wApp, wApp1, wPop, wPop1, wExt, wExt1, wSetI, wSetI1, wSetD, wSortSet, wIdx, wIdx1, wExtL, wExtL1, wLenM, wNotInM, wGetM, wPutM, wPutM1, wSetK, wTri, wForget, rCatTD, rCatLD, intsR, Option.map_some, bN, bTup, bCons, bNil, as_d, as_l, as_b, noB_d, noB_l, still_d, still_l, still_b, put_d, put_l, tru_bool, tru_tup, tru_lst, isT_tup, isI_int, isB_int, stillA_nil, stillA_cons, map0, map1, map2, map3, len_l, len_t, tup_l, tup_t, lst_l, lst_t, max_i, min_i, List.all_cons, List.all_nil, Bool.and_self, Bool.and_true, Bool.not_true, Bool.not_false, List.getElem?_cons_zero, List.getElem?_cons_succ, List.cons_append, List.nil_append, List.append_nil, List.reduceReplicate, Nat.reduceSub, Nat.sub_self, rI1, rI2, rAddD, rSubD, rMulD, rDivD, rModD, rPowD, rLtD, rLeD, rGtD, rGeD, List.set_cons_zero, List.set_cons_succ, List.set_nil, endsOf, outD, wipeD])
abbrev Step := Nat × Nat × Nat
def ruleAt (rl : List Rule) (n : Nat) : Rule := rl.getD n ([], 0)
def Able (G : Marks) (r : Rule) (i j : Nat) : Prop := ∀ g ∈ r.1, mrk G g.toNat i = mrk G g.toNat j
def ableB (G : Marks) (r : Rule) (i j : Nat) : Bool := r.1.all fun c => decide (mrk G c.toNat i = mrk G c.toNat j)
def goS (rl : List Rule) (G : Marks) (s : Step) : Marks := stepG G (ruleAt rl s.1).2.toNat s.2.1 s.2.2
inductive Run (n : Nat) (rl : List Rule) (G : Marks) : List Step → Marks → Prop
  | nil : Run n rl G [] G
  | snoc {G' : Marks} {st : List Step} {s : Step} : Run n rl G st G' → s.1 < rl.length → s.2.1 < s.2.2 → s.2.2 < n → Able G' (ruleAt rl s.1) s.2.1 s.2.2 → Run n rl G (st ++ [s]) (goS rl G' s)
def tryS (rl : List Rule) (n : Nat) (x : Marks × List Step) (p : Nat × Nat) : Marks × List Step := if (ableB x.1 (ruleAt rl n) p.1 p.2 && !decide (mrk x.1 (ruleAt rl n).2.toNat p.1 = mrk x.1 (ruleAt rl n).2.toNat p.2)) = true then (goS rl x.1 (n, p.1, p.2), x.2 ++ [(n, p.1, p.2)]) else x
def ruleS (rl : List Rule) (len n : Nat) (G : Marks) : Marks × List Step := (pairs len).foldl (tryS rl n) (G, [])
def roundS (rl : List Rule) (len : Nat) (x : Marks × List Step) (n : Nat) : Marks × List Step := ((ruleS rl len n x.1).1, x.2 ++ (ruleS rl len n x.1).2)
def turnS (rl : List Rule) (len : Nat) (x : Marks × List Step) : Marks × List Step := (List.range rl.length).foldl (roundS rl len) x
inductive AllS (rl : List Rule) (len : Nat) : Marks × List Step → Marks × List Step → Prop
  | stop {x : Marks × List Step} : (turnS rl len x).2.length = x.2.length → AllS rl len x (turnS rl len x)
  | more {x z : Marks × List Step} : (turnS rl len x).2.length ≠ x.2.length → AllS rl len (turnS rl len x) z → AllS rl len x z
theorem asc_eq : ∀ (l l' : List Int), l.Pairwise (· < ·) → l'.Pairwise (· < ·) → (∀ k, k ∈ l ↔ k ∈ l') → l = l'
  | [], [], _, _, _ => rfl
  | [], b :: l', _, _, h => by have := (h b).mpr List.mem_cons_self; simp at this
  | a :: l, [], _, _, h => by have := (h a).mp List.mem_cons_self; simp at this
  | a :: l, b :: l', p, p', h => by
    obtain ⟨p1, p2⟩ := List.pairwise_cons.mp p
    obtain ⟨q1, q2⟩ := List.pairwise_cons.mp p'
    have ab : a = b := by
      rcases List.mem_cons.mp ((h a).mp List.mem_cons_self) with z | z
      · exact z
      · rcases List.mem_cons.mp ((h b).mpr List.mem_cons_self) with w | w
        · exact w.symm
        · have := q1 a z
          have := p1 b w
          omega
    subst ab
    congr 1
    refine asc_eq l l' p2 q2 fun k => ⟨fun z => ?_, fun z => ?_⟩
    · rcases List.mem_cons.mp ((h k).mp (List.mem_cons_of_mem _ z)) with w | w
      · have := p1 k z; omega
      · exact w
    · rcases List.mem_cons.mp ((h k).mpr (List.mem_cons_of_mem _ z)) with w | w
      · have := q1 k z; omega
      · exact w
end B
namespace B
open PySem PySem.Spec PyProof.Rows L2 Dw
local macro_rules | `(tactic| walk_at "ds") => `(tactic| try dsimp only [wRet, wRetN, sPu, wThenX, wIfX, wRetX, wDropX, wSetX, wCallX, wCallP, uPu, wPu, uConsX, wRaise, wDc, wDcT, wDZ, wD1, wGet1, wGet2, wGetT, wThen, wIfS, wIf, wNotT, wTru, wB, w2, wV, wC, wCons, wNil, wCall, wCallO, wCallO1, endO, wCB, wLc, wSeq, wYes, wNext, wNever, wDrop, wSet, wAsg, wPair, wFor, wTup, wLst, wAndV, wOrV, wNotV, wNeg, wAndT, wOrT, wIsi, wChain, wSlice, wPart, wNo, wZip, wEnum, wRng1, wRng2, wLc2, wApp, wApp1, wPop, wPop1, wExt, wExt1, wSetI, wSetI1, wSetD, wIdx, wIdx1, wExtL, wExtL1, wLenM, wNotInM, wGetM, wPutM, wPutM1, wSetK, wTri, wForget, rCatTD, rCatLD, intsR, Option.map_some, bN, bTup, bCons, bNil, as_d, as_l, as_b, noB_d, noB_l, still_d, still_l, still_b, put_d, put_l, tru_bool, tru_tup, tru_lst, isT_tup, isI_int, isB_int, stillA_nil, stillA_cons, map0, map1, map2, map3, len_l, len_t, tup_l, tup_t, lst_l, lst_t, max_i, min_i, List.all_cons, List.all_nil, Bool.and_self, Bool.and_true, Bool.not_true, Bool.not_false, List.getElem?_cons_zero, List.getElem?_cons_succ, List.cons_append, List.nil_append, List.append_nil, List.reduceReplicate, Nat.reduceSub, Nat.sub_self, rI1, rI2, rAddD, rSubD, rMulD, rDivD, rModD, rPowD, rLtD, rLeD, rGtD, rGeD, List.set_cons_zero, List.set_cons_succ, List.set_nil, endsOf, outD, wipeD])
end B
namespace B
open PySem PySem.Spec PyProof.Rows L2 Dw
local macro_rules | `(tactic| walk_at "ds") => `(tactic| try dsimp only [wRet, wRetN, sPu, wThenX, wIfX, wRetX, wDropX, wSetX, wCallX, wCallP, uPu, wPu, uConsX, wRaise, wDc, wDcT, wDZ, wD1, wGet1, wGet2, wGetT, wThen, wIfS, wIf, wNotT, wTru, wB, w2, wV, wC, wCons, wNil, wCall, wCallO, wCallO1, endO, wCB, wLc, wSeq, wYes, wNext, wNever, wDrop, wSet, wAsg, wPair, wFor, wTup, wLst, wAndV, wOrV, wNotV, wNeg, wAndT, wOrT, wIsi, wChain, wSlice, wPart, wNo, wZip, wEnum, wRng1, wRng2, wLc2, wApp, wApp1, wPop, wPop1, wExt, wExt1, wSetI, wSetI1, wSetD, wIdx, wIdx1, wExtL, wExtL1, wLenM, wNotInM, wGetM, wPutM, wPutM1, wSetK, wTri, wForget, rCatTD, rCatLD, intsR, Option.map_some, bN, bTup, bCons, bNil, as_d, as_l, as_b, noB_d, noB_l, still_d, still_l, still_b, put_d, put_l, tru_bool, tru_tup, tru_lst, isT_tup, isI_int, isB_int, stillA_nil, stillA_cons, map0, map1, map2, map3, len_l, len_t, tup_l, tup_t, lst_l, lst_t, max_i, min_i, List.all_cons, List.all_nil, Bool.and_self, Bool.and_true, Bool.not_true, Bool.not_false, List.getElem?_cons_zero, List.getElem?_cons_succ, List.cons_append, List.nil_append, List.append_nil, List.reduceReplicate, Nat.reduceSub, Nat.sub_self, rI1, rI2, rAddD, rSubD, rMulD, rDivD, rModD, rPowD, rLtD, rLeD, rGtD, rGeD, List.set_cons_zero, List.set_cons_succ, List.set_nil, endsOf, outD, wipeD])
theorem cut_hi {α : Type} (xs : List α) (k : Nat) (h : k ≤ xs.length) : (xs.drop (HT.sIx xs.length 0 (some (k : Nat)))).take (HT.sIx xs.length xs.length none - HT.sIx xs.length 0 (some (k : Nat))) = xs.drop k := by
  rw [HT.sIx_none, show HT.sIx xs.length 0 (some ((k : Nat) : Int)) = min k xs.length from HT.sIx_nat xs.length 0 k, Nat.min_eq_left h]
  rw [List.take_of_length_le (by rw [List.length_drop]; omega)]
end B
namespace B
open PySem PySem.Spec PyProof.Rows L2 Dw
local macro_rules | `(tactic| walk_at "ds") => `(tactic| try dsimp only [wRet, wRetN, sPu, wThenX, wIfX, wRetX, wDropX, wSetX, wCallX, wCallP, uPu, wPu, uConsX, wRaise, wDc, wDcT, wDZ, wD1, wGet1, wGet2, wGetT, wThen, wIfS, wIf, wNotT, wTru, wB, w2, wV, wC, wCons, wNil, wCall, wCallO, wCallO1, endO, wCB, wLc, wSeq, wYes, wNext, wNever, wDrop, wSet, wAsg, wPair, wFor, wTup, wLst, wAndV, wOrV, wNotV, wNeg, wAndT, wOrT, wIsi, wChain, wSlice, wPart, wNo, wZip, wEnum, wRng1, wRng2, wLc2, wApp, wApp1, wPop, wPop1, wExt, wExt1, wSetI, wSetI1, wSetD, wDat, wTupRg, wLstRg, wTupS, wCBX, wCallE, wCallPE, rngL, wIdx, wIdx1, wExtL, wExtL1, wLenM, wNotInM, wGetM, wPutM, wPutM1, wSetK, wTri, wForget, rCatTD, rCatLD, intsR, Option.map_some, bN, bTup, bCons, bNil, as_d, as_l, as_b, noB_d, noB_l, still_d, still_l, still_b, put_d, put_l, tru_bool, tru_tup, tru_lst, isT_tup, isI_int, isB_int, stillA_nil, stillA_cons, map0, map1, map2, map3, len_l, len_t, tup_l, tup_t, lst_l, lst_t, max_i, min_i, List.all_cons, List.all_nil, Bool.and_self, Bool.and_true, Bool.not_true, Bool.not_false, List.getElem?_cons_zero, List.getElem?_cons_succ, List.cons_append, List.nil_append, List.append_nil, List.reduceReplicate, Nat.reduceSub, Nat.sub_self, rI1, rI2, rAddD, rSubD, rMulD, rDivD, rModD, rPowD, rLtD, rLeD, rGtD, rGeD, List.set_cons_zero, List.set_cons_succ, List.set_nil, endsOf, outD, wipeD])
end B
namespace B
open PySem PySem.Spec PyProof.Rows L2 Dw
local macro_rules | `(tactic| walk_at "ds") => `(tactic| try dsimp only [wRet, wRetN, sPu, wThenX, wIfX, wRetX, wDropX, wSetX, wCallX, wCallP, uPu, wPu, uConsX, wRaise, wDc, wDcT, wDZ, wD1, wGet1, wGet2, wGetT, wThen, wIfS, wIf, wNotT, wTru, wB, w2, wV, wC, wCons, wNil, wCall, wCallO, wCallO1, endO, wCB, wLc, wSeq, wYes, wNext, wNever, wDrop, wSet, wAsg, wPair, wFor, wTup, wLst, wAndV, wOrV, wNotV, wNeg, wAndT, wOrT, wIsi, wChain, wSlice, wPart, wNo, wZip, wEnum, wRng1, wRng2, wLc2, wApp, wApp1, wPop, wPop1, wExt, wExt1, wSetI, wSetI1, wSetD, wDat, wTupRg, wLstRg, wTupS, wCBX, wCallE, wCallPE, rngL, wIdx, wIdx1, wExtL, wExtL1, wLenM, wNotInM, wGetM, wPutM, wPutM1, wSetK, wTri, wForget, rCatTD, rCatLD, intsR, Option.map_some, bN, bTup, bCons, bNil, as_d, as_l, as_b, noB_d, noB_l, still_d, still_l, still_b, put_d, put_l, tru_bool, tru_tup, tru_lst, isT_tup, isI_int, isB_int, stillA_nil, stillA_cons, map0, map1, map2, map3, len_l, len_t, tup_l, tup_t, lst_l, lst_t, max_i, min_i, List.all_cons, List.all_nil, Bool.and_self, Bool.and_true, Bool.not_true, Bool.not_false, List.getElem?_cons_zero, List.getElem?_cons_succ, List.cons_append, List.nil_append, List.append_nil, List.reduceReplicate, Nat.reduceSub, Nat.sub_self, rI1, rI2, rAddD, rSubD, rMulD, rDivD, rModD, rPowD, rLtD, rLeD, rGtD, rGeD, List.set_cons_zero, List.set_cons_succ, List.set_nil, endsOf, outD, wipeD])
def knP (rs : List Cells) (G : Marks) (g : List Int) (i : Nat) : Cells := g.map fun c => kn rs G i c.toNat
structure SureL (rs : List Cells) (G : Marks) (g : List Int) (qs : List (List Int)) : Prop where
  asc : qs.Pairwise fun a b => SrtT.ltL a b = true
  iff : ∀ t, t ∈ qs ↔ ∃ i, i < rs.length ∧ knP rs G g i = t.map some
theorem asc_uniq : ∀ (a b : List (List Int)), a.Pairwise (fun a b => SrtT.ltL a b = true) → b.Pairwise (fun a b => SrtT.ltL a b = true) → (∀ t, t ∈ a ↔ t ∈ b) → a = b
  | [], [], _, _, _ => rfl
  | [], y :: b, _, _, h => absurd ((h y).mpr List.mem_cons_self) (by simp)
  | x :: a, [], _, _, h => absurd ((h x).mp List.mem_cons_self) (by simp)
  | x :: a, y :: b, ha, hb, h => by
    obtain ⟨a1, a2⟩ := List.pairwise_cons.mp ha
    obtain ⟨b1, b2⟩ := List.pairwise_cons.mp hb
    have irr : ∀ z, SrtT.ltL z z = true → False := fun z e => by
      have := SrtT.ltL_asym z z e
      rw [e] at this
      cases this
    have two : ∀ z u, SrtT.ltL z u = true → SrtT.ltL u z = true → False := fun z u e e' => by
      have := SrtT.ltL_asym z u e
      rw [e'] at this
      cases this
    have e : x = y := by
      rcases List.mem_cons.mp ((h x).mp List.mem_cons_self) with e | hx
      · exact e
      · rcases List.mem_cons.mp ((h y).mpr List.mem_cons_self) with e | hy
        · exact e.symm
        · exact (two x y (a1 y hy) (b1 x hx)).elim
    subst e
    rw [asc_uniq a b a2 b2 fun t => ?_]
    constructor
    · intro ht
      rcases List.mem_cons.mp ((h t).mp (List.mem_cons_of_mem _ ht)) with e | z
      · subst e
        exact (irr t (a1 t ht)).elim
      · exact z
    · intro ht
      rcases List.mem_cons.mp ((h t).mpr (List.mem_cons_of_mem _ ht)) with e | z
      · subst e
        exact (irr t (b1 t ht)).elim
      · exact z
theorem SureL.uniq {rs : List Cells} {G : Marks} {g : List Int} {a b : List (List Int)} (ha : SureL rs G g a) (hb : SureL rs G g b) : a = b := asc_uniq a b ha.asc hb.asc fun t => (ha.iff t).trans (hb.iff t).symm
def fullT (r : Cells) : List Int := r.map fun c => c.getD 0
theorem fullT_ints (t : List Int) : fullT (t.map some) = t := by
  unfold fullT
  rw [List.map_map]
  exact List.map_id t
end B
namespace B
open PySem PySem.Spec PyProof.Rows L2 Dw
structure IsFill (m : Int) (rs ws : List Cells) (rl : List Rule) : Prop where
  ok : TabOk m ws
  len : ws.length = rs.length
  full : Full ws
  keep : ∀ i c v, i < rs.length → c < m.toNat → cel rs i c = some v → cel ws i c = some v
  hold : ∀ r ∈ rl, (brk ws r).isEmpty = true
end B
namespace B
open PySem PySem.Spec PyProof.Rows L2 Dw
local macro_rules | `(tactic| walk_at "ds") => `(tactic| try dsimp only [wRet, wRetN, sPu, wThenX, wIfX, wRetX, wDropX, wSetX, wCallX, wCallP, uPu, wPu, uConsX, wRaise, wDc, wDcT, wDZ, wD1, wGet1, wGet2, wGetT, wThen, wIfS, wIf, wNotT, wTru, wB, w2, wV, wC, wCons, wNil, wCall, wCallO, wCallO1, endO, wCB, wLc, wSeq, wYes, wNext, wNever, wDrop, wSet, wAsg, wPair, wFor, wTup, wLst, wAndV, wOrV, wNotV, wNeg, wAndT, wOrT, wIsi, wChain, wSlice, wPart, wNo, wZip, wEnum, wRng1, wRng2, wLc2, wApp, wApp1, wPop, wPop1, wExt, wExt1, wSetI, wSetI1, wSetD, wDat, wTupRg, wLstRg, wTupS, wCBX, wCallE, wCallPE, rngL, wIdx, wIdx1, wExtL, wExtL1, wLenM, wNotInM, wGetM, wPutM, wPutM1, wSetK, wTri, wForget, rCatTD, rCatLD, intsR, Option.map_some, bN, bTup, bCons, bNil, as_d, as_l, as_b, noB_d, noB_l, still_d, still_l, still_b, put_d, put_l, tru_bool, tru_tup, tru_lst, isT_tup, isI_int, isB_int, stillA_nil, stillA_cons, map0, map1, map2, map3, len_l, len_t, tup_l, tup_t, lst_l, lst_t, max_i, min_i, List.all_cons, List.all_nil, Bool.and_self, Bool.and_true, Bool.not_true, Bool.not_false, List.getElem?_cons_zero, List.getElem?_cons_succ, List.cons_append, List.nil_append, List.append_nil, List.reduceReplicate, Nat.reduceSub, Nat.sub_self, rI1, rI2, rAddD, rSubD, rMulD, rDivD, rModD, rPowD, rLtD, rLeD, rGtD, rGeD, List.set_cons_zero, List.set_cons_succ, List.set_nil, endsOf, outD, wipeD])
end B
namespace B
open PySem PySem.Spec PyProof.Rows L2 Dw
local macro_rules | `(tactic| walk_at "ds") => `(tactic| try dsimp only [wRet, wRetN, sPu, wThenX, wIfX, wRetX, wDropX, wSetX, wCallX, wCallP, uPu, wPu, uConsX, wRaise, wDc, wDcT, wDZ, wD1, wGet1, wGet2, wGetT, wThen, wIfS, wIf, wNotT, wTru, wB, w2, wV, wC, wCons, wNil, wCall, wCallO, wCallO1, endO, wCB, wLc, wSeq, wYes, wNext, wNever, wDrop, wSet, wAsg, wPair, wFor, wTup, wLst, wAndV, wOrV, wNotV, wNeg, wAndT, wOrT, wIsi, wChain, wSlice, wPart, wNo, wZip, wEnum, wRng1, wRng2, wLc2, wApp, wApp1, wPop, wPop1, wExt, wExt1, wSetI, wSetI1, wSetD, wDat, wTupRg, wLstRg, wTupS, wCBX, wCallE, wCallPE, rngL, wIdx, wIdx1, wExtL, wExtL1, wLenM, wNotInM, wGetM, wPutM, wPutM1, wSetK, wTri, wForget, rCatTD, rCatLD, intsR, Option.map_some, bN, bTup, bCons, bNil, as_d, as_l, as_b, noB_d, noB_l, still_d, still_l, still_b, put_d, put_l, tru_bool, tru_tup, tru_lst, isT_tup, isI_int, isB_int, stillA_nil, stillA_cons, map0, map1, map2, map3, len_l, len_t, tup_l, tup_t, lst_l, lst_t, max_i, min_i, List.all_cons, List.all_nil, Bool.and_self, Bool.and_true, Bool.not_true, Bool.not_false, List.getElem?_cons_zero, List.getElem?_cons_succ, List.cons_append, List.nil_append, List.append_nil, List.reduceReplicate, Nat.reduceSub, Nat.sub_self, rI1, rI2, rAddD, rSubD, rMulD, rDivD, rModD, rPowD, rLtD, rLeD, rGtD, rGeD, List.set_cons_zero, List.set_cons_succ, List.set_nil, endsOf, outD, wipeD])
theorem nodup_lenT {α : Type} [DecidableEq α] : ∀ {l ns : List α}, l.Nodup → (∀ k ∈ l, k ∈ ns) → l.length ≤ ns.length
  | [], _, _, _ => Nat.zero_le _
  | x :: l, ns, hn, h => by
    obtain ⟨h1, h2⟩ := List.nodup_cons.mp hn
    have ih := nodup_lenT (l := l) (ns := ns.erase x) h2 fun k hk => (List.mem_erase_of_ne (fun z : k = x => h1 (z ▸ hk))).mpr (h k (List.mem_cons_of_mem _ hk))
    have hx := h x List.mem_cons_self
    have := List.length_erase_of_mem hx
    have p : 0 < ns.length := List.length_pos_of_mem hx
    rw [List.length_cons]
    omega
theorem asc_nodup {qs : List (List Int)} (h : qs.Pairwise fun a b => SrtT.ltL a b = true) : qs.Nodup := List.Pairwise.imp (fun {a b} e z => by
  subst z
  have := SrtT.ltL_asym a a e
  rw [e] at this
  cases this) h
theorem SureL.len {rs : List Cells} {G : Marks} {g : List Int} {qs : List (List Int)} (h : SureL rs G g qs) : qs.length ≤ rs.length := by
  have := nodup_lenT (ns := (List.range rs.length).map fun i => fullT (knP rs G g i)) (asc_nodup h.asc) fun t ht => by
    obtain ⟨i, hi, e⟩ := (h.iff t).mp ht
    exact List.mem_map.mpr ⟨i, List.mem_range.mpr hi, by rw [e, fullT_ints]⟩
  rw [List.length_map, List.length_range] at this
  exact this
theorem SureL.mem {m : Int} {rs : List Cells} {G : Marks} {g : List Int} {qs : List (List Int)} (h : SureL rs G g qs) (ht : TabOk m rs) (hg : ColsOk m g) {t : List Int} (hm : t ∈ qs) : t.length = g.length ∧ ∀ v ∈ t, 0 ≤ v ∧ v ≤ 9999 := by
  obtain ⟨i, hi, e⟩ := (h.iff t).mp hm
  have l : t.length = g.length := by
    have := congrArg List.length e
    unfold knP at this
    rw [List.length_map, List.length_map] at this
    exact this.symm
  refine ⟨l, fun v hv => ?_⟩
  have hv : some v ∈ knP rs G g i := by rw [e]; exact List.mem_map.mpr ⟨v, hv, rfl⟩
  obtain ⟨c, hc, ec⟩ := List.mem_map.mp hv
  obtain ⟨c0, c1⟩ := hg.inn c hc
  exact kn_ok0 ht (by omega) v ec
end B
namespace B
open PySem PySem.Spec PyProof.Rows L2 Dw
local macro_rules | `(tactic| walk_at "ds") => `(tactic| try dsimp only [wRet, wRetN, sPu, wThenX, wIfX, wRetX, wDropX, wSetX, wCallX, wCallP, uPu, wPu, uConsX, wRaise, wDc, wDcT, wDZ, wD1, wGet1, wGet2, wGetT, wThen, wIfS, wIf, wNotT, wTru, wB, w2, wV, wC, wCons, wNil, wCall, wCallO, wCallO1, endO, wCB, wLc, wSeq, wYes, wNext, wNever, wDrop, wSet, wAsg, wPair, wFor, wTup, wLst, wAndV, wOrV, wNotV, wNeg, wAndT, wOrT, wIsi, wChain, wSlice, wPart, wNo, wZip, wEnum, wRng1, wRng2, wLc2, wApp, wApp1, wPop, wPop1, wExt, wExt1, wSetI, wSetI1, wSetD, wIdx, wIdx1, wExtL, wExtL1, wLenM, wNotInM, wGetM, wPutM, wPutM1, wSetK, wTri, wForget, rCatTD, rCatLD, intsR, Option.map_some, bN, bTup, bCons, bNil, as_d, as_l, as_b, noB_d, noB_l, still_d, still_l, still_b, put_d, put_l, tru_bool, tru_tup, tru_lst, isT_tup, isI_int, isB_int, stillA_nil, stillA_cons, map0, map1, map2, map3, len_l, len_t, tup_l, tup_t, lst_l, lst_t, max_i, min_i, List.all_cons, List.all_nil, Bool.and_self, Bool.and_true, Bool.not_true, Bool.not_false, List.getElem?_cons_zero, List.getElem?_cons_succ, List.cons_append, List.nil_append, List.append_nil, List.reduceReplicate, Nat.reduceSub, Nat.sub_self, rI1, rI2, rAddD, rSubD, rMulD, rDivD, rModD, rPowD, rLtD, rLeD, rGtD, rGeD, List.set_cons_zero, List.set_cons_succ, List.set_nil, endsOf, outD, wipeD])
end B
namespace B
open PySem PySem.Spec PyProof.Rows L2 Dw
local macro_rules | `(tactic| walk_at "ds") => `(tactic| try dsimp only [wRet, wRetN, sPu, wThenX, wIfX, wRetX, wDropX, wSetX, wCallX, wCallP, uPu, wPu, uConsX, wRaise, wDc, wDcT, wDZ, wD1, wGet1, wGet2, wGetT, wThen, wIfS, wIf, wNotT, wTru, wB, w2, wV, wC, wCons, wNil, wCall, wCallO, wCallO1, endO, wCB, wLc, wSeq, wYes, wNext, wNever, wDrop, wSet, wAsg, wPair, wFor, wTup, wLst, wAndV, wOrV, wNotV, wNeg, wAndT, wOrT, wIsi, wChain, wSlice, wPart, wNo, wZip, wEnum, wRng1, wRng2, wLc2, wApp, wApp1, wPop, wPop1, wExt, wExt1, wSetI, wSetI1, wSetD, wIdx, wIdx1, wExtL, wExtL1, wLenM, wNotInM, wGetM, wPutM, wPutM1, wSetK, wTri, wForget, rCatTD, rCatLD, intsR, Option.map_some, bN, bTup, bCons, bNil, as_d, as_l, as_b, noB_d, noB_l, still_d, still_l, still_b, put_d, put_l, tru_bool, tru_tup, tru_lst, isT_tup, isI_int, isB_int, stillA_nil, stillA_cons, map0, map1, map2, map3, len_l, len_t, tup_l, tup_t, lst_l, lst_t, max_i, min_i, List.all_cons, List.all_nil, Bool.and_self, Bool.and_true, Bool.not_true, Bool.not_false, List.getElem?_cons_zero, List.getElem?_cons_succ, List.cons_append, List.nil_append, List.append_nil, List.reduceReplicate, Nat.reduceSub, Nat.sub_self, rI1, rI2, rAddD, rSubD, rMulD, rDivD, rModD, rPowD, rLtD, rLeD, rGtD, rGeD, List.set_cons_zero, List.set_cons_succ, List.set_nil, endsOf, outD, wipeD])
def tabOf (m n : Nat) (M : Marks) : List Cells := (List.range n).map fun k => (List.range m).map fun c => some ((mrk M c k : Nat) : Int)
section
variable {m : Int} {rs : List Cells} {rl : List Rule} {G : Marks} {i a c : Nat}
variable {G' : Marks}
end
section
variable {m : Int} {rs : List Cells} {rl : List Rule} {G G' : Marks} {i a c b : Nat}
end
end B
namespace L2
open PySem PySem.Spec PyProof.Rows
section
variable {X : Cx}
end
end L2
namespace Dw
open PySem PySem.Spec PyProof.Rows L2
section
variable {X : Cx} {a b : Expr} {wa wb : WE} {pos : Pos}
variable {rest : List Expr}
end
end Dw
namespace B
open PySem PySem.Spec PyProof.Rows L2 Dw
local macro_rules | `(tactic| walk_at "ds") => `(tactic| try dsimp only [wRet, wRetN, sPu, wThenX, wIfX, wRetX, wDropX, wSetX, wCallX, wCallP, uPu, wPu, uConsX, wRaise, wDc, wDcT, wDZ, wD1, wGet1, wGet2, wGetT, wThen, wIfS, wIf, wNotT, Dw.wTru, wB, w2, wV, wC, wCons, wNil, wCall, wCallO, wCallO1, endO, wCB, wLc, wSeq, wYes, wNext, wNever, wDrop, wSet, wAsg, wPair, wFor, wTup, wLst, wAndV, wOrV, wNotV, wNeg, wAndT, wOrT, wIsi, wChain, wSlice, wPart, wNo, wZip, wEnum, wRng1, wRng2, wLc2, wApp, wApp1, wPop, wPop1, wExt, wExt1, wSetI, wSetI1, wSetD, wDat, wTupRg, wLstRg, wTupS, wCBX, wCallE, wCallPE, rngL, wIdx, wIdx1, wExtL, wExtL1, wLenM, wNotInM, wGetM, wPutM, wPutM1, wSetK, wTri, wForget, rCatTD, rCatLD, intsR, Option.map_some, bN, bTup, bCons, bNil, as_d, as_l, as_b, noB_d, noB_l, still_d, still_l, still_b, put_d, put_l, tru_bool, tru_tup, tru_lst, isT_tup, isI_int, isB_int, stillA_nil, stillA_cons, map0, map1, map2, map3, len_l, len_t, tup_l, tup_t, lst_l, lst_t, max_i, min_i, List.all_cons, List.all_nil, Bool.and_self, Bool.and_true, Bool.not_true, Bool.not_false, List.getElem?_cons_zero, List.getElem?_cons_succ, List.cons_append, List.nil_append, List.append_nil, List.reduceReplicate, Nat.reduceSub, Nat.sub_self, rI1, rI2, rAddD, rSubD, rMulD, rDivD, rModD, rPowD, rLtD, rLeD, rGtD, rGeD, List.set_cons_zero, List.set_cons_succ, List.set_nil, endsOf, outD, wipeD])
structure Sts (m : Int) (rs : List Cells) (rl : List Rule) (st : List Step) (G : Marks) : Prop where
  run : Run rs.length rl (initG m.toNat rs) st G
  jm : JM m.toNat rs rl G
  few : st.length ≤ 1000
  all : AllS rl rs.length (initG m.toNat rs, []) (G, st)
end B
namespace B
open PySem PySem.Spec PyProof.Rows L2 Dw
local macro_rules | `(tactic| walk_at "ds") => `(tactic| try dsimp only [wRet, wRetN, sPu, wThenX, wIfX, wRetX, wDropX, wSetX, wCallX, wCallP, uPu, wPu, uConsX, wRaise, wDc, wDcT, wDZ, wD1, wGet1, wGet2, wGetT, wThen, wIfS, wIf, wNotT, Dw.wTru, wB, w2, wV, wC, wCons, wNil, wCall, wCallO, wCallO1, endO, wCB, wLc, wSeq, wYes, wNext, wNever, wDrop, wSet, wAsg, wPair, wFor, wTup, wLst, wAndV, wOrV, wNotV, wNeg, wAndT, wOrT, wIsi, wChain, wSlice, wPart, wNo, wZip, wEnum, wRng1, wRng2, wLc2, wApp, wApp1, wPop, wPop1, wExt, wExt1, wSetI, wSetI1, wSetD, wDat, wTupRg, wLstRg, wTupS, wCBX, wCallE, wCallPE, rngL, wIdx, wIdx1, wExtL, wExtL1, wLenM, wNotInM, wGetM, wPutM, wPutM1, wSetK, wTri, wForget, rCatTD, rCatLD, intsR, Option.map_some, bN, bTup, bCons, bNil, as_d, as_l, as_b, noB_d, noB_l, still_d, still_l, still_b, put_d, put_l, tru_bool, tru_tup, tru_lst, isT_tup, isI_int, isB_int, stillA_nil, stillA_cons, map0, map1, map2, map3, len_l, len_t, tup_l, tup_t, lst_l, lst_t, max_i, min_i, List.all_cons, List.all_nil, Bool.and_self, Bool.and_true, Bool.not_true, Bool.not_false, List.getElem?_cons_zero, List.getElem?_cons_succ, List.cons_append, List.nil_append, List.append_nil, List.reduceReplicate, Nat.reduceSub, Nat.sub_self, rI1, rI2, rAddD, rSubD, rMulD, rDivD, rModD, rPowD, rLtD, rLeD, rGtD, rGeD, List.set_cons_zero, List.set_cons_succ, List.set_nil, endsOf, outD, wipeD])
end B
namespace Dw
open PySem PySem.Spec PyProof.Rows L2
section
variable {X : Cx} {pos pos' py : Pos} {x y : Str} {e : Expr} {ua : WA} {p : Pos}
end
end Dw
namespace Dw
open PySem PySem.Spec PyProof.Rows L2
end Dw
namespace Dw
open PySem PySem.Spec PyProof.Rows L2
def flatR : Rv → Bool
  | .d x => flat x
  | .l xs => xs.all flat
  | .b _ _ => false
def calmD (j : Nat) (δ : Dl) : Prop := (∀ (i : Nat) (ys : List PyData), i ≠ j → δ[i]? = some (Sl.o ys) → ys.all flat = true) ∧ ∀ (i : Nat) (s : Sl), δ[i]? = some s → noMk s = true
def wBrw (j : Nat) (w : WE) : WE := fun δ P => match δ[j]? with
  | some (.o xs) => calmD j δ ∧ w (δ.set j (.d (.list xs))) fun r δ' => δ' = δ.set j (.d (.list xs)) ∧ flatR r = true ∧ P r δ
  | _ => False
end Dw
namespace Dw
open PySem PySem.Spec PyProof.Rows L2
theorem nodup_few : ∀ (l D : List Int), l.Nodup → (∀ x ∈ l, x ∈ D) → l.length ≤ D.length
  | [], D, _, _ => Nat.zero_le _
  | x :: l, D, n, h => by
    have hx := h x List.mem_cons_self
    have n1 := List.nodup_cons.mp n
    have := nodup_few l (D.erase x) n1.2 fun y hy => (List.mem_erase_of_ne fun e : y = x => n1.1 (e ▸ hy)).mpr (h y (List.mem_cons_of_mem _ hy))
    rw [List.length_erase_of_mem hx] at this
    have : 0 < D.length := List.length_pos_of_mem hx
    rw [List.length_cons]
    omega
theorem setR_keys {w : World} {h : Heap} {a : Addr} {S : Int → Bool} {c : Nat} (R : SetR w h a S c) : ∃ ks : List Int, ks.Nodup ∧ (∀ k, S k = true ↔ k ∈ ks) ∧ ks.length = c := by
  obtain ⟨o, es, ep, t, _, _, _, _, nd, hm, _, _, hn, _⟩ := R
  exact ⟨es.toList.map keyOf, nd, hm, by rw [List.length_map, Array.length_toList]; exact hn⟩
section
variable {X : Cx} {a : Expr} {ta : TE} {wa : WE} {p p2 q pos : Pos}
def tSortSetF (K : PySem.W.Frag) (ta : TE) : TE := fun σ H Q => ta σ H fun x H1 => ∃ (l : Addr) (ns D : List Int), x = V.ref l ∧ SqL K H1 l (ns.map V.int) ∧ ns.length ≤ 4000 ∧ (∀ k ∈ ns, k ∈ D) ∧ D.length < 60 ∧ ∀ (ms : List Int) (b : Addr), ms.Pairwise (· < ·) → (∀ k : Int, k ∈ ms ↔ k ∈ ns) → H1 b = none → Q (.ref b) (upd H1 b (.lst (ms.map V.int)))
theorem pe_sortSetF (hc : X.calm = true) (hg : Gl X "sorted") (hm : X.mg "sorted" = none) (hg2 : Gl X "set") (hm2 : X.mg "set" = none) (ha : PE X a ta) (na : starEach [a] X.env = (false, eval a X.env) :: starEach [] X.env := by rfl) :
    PE X (.Call (.Name "sorted" p) [.Call (.Name "set" p2) [a] [] q] [] pos) (tSortSetF X.K ta) := by
  refine ⟨fun pins s σ H Q I h => ?_⟩
  refine Call_ (ld_blt I hg hm PyProof.Rows.boot_sorted ?_)
  refine PyProof.Rows.callWith_builtin1 (PyProof.Rows.args_cons ?_ rfl) rfl rfl
  refine Call_ (ld_blt I hg2 hm2 PyProof.Rows.boot_set ?_)
  refine PyProof.Rows.callWith_type1 (PyProof.Rows.args_cons (thn (ha.run pins s σ H _ I h) fun v s1 ⟨x, H1, I1, r1, q1⟩ => PyProof.Rows.args_nil ?_) na) na rfl
  obtain ⟨l, ns, D, rfl, hq, long, inD, few, fin⟩ := q1
  cases r1
  obtain ⟨its, r, pl, hz⟩ := I1.list hq
  refine set_ints ns (I1.ok.hd hc) pl.isList (by simpa using RZ.intsAre_vals r) (by unfold scanBound; omega) fun k u c hS hc2 hk => ?_
  refine PyProof.Rows.args_nil ?_
  have I2 : Inv X pins σ H1 { s1 with heap := k, toks := u } := I1.kept fun b o e => hk b o e
  have c60 : c < 60 := by
    obtain ⟨ks, k1, k2, k3⟩ := setR_keys hS
    have := nodup_few ks D k1 fun x hx => inD x (decide_eq_true_iff.mp ((k2 x).mpr hx))
    omega
  refine sorted_set (P := X.prog) hS (I1.ok.hd hc) (by omega) fun s' b out c3 ms keep hgen hos hb hget hi hsort hmem hlen => ?_
  have hl : (ms.map V.int).length ≤ sizeLine := by rw [List.length_map, hlen, sizeLine_eq]; omega
  have hn : H1 b = none := I2.hok.fresh hb
  have J : Inv X pins σ (upd H1 b (.lst (ms.map V.int))) { ({ s1 with heap := k, toks := u } : Shared) with heap := s'.heap, gens := s'.gens, drawn := s'.drawn, toks := s'.toks } :=
    I2.call (ch := []) (Un.laid keep hb hn) (I2.hok.laid keep hb ⟨hl, out.toList, c3, vals_of_ints hi, hget⟩) (by rw [hgen]; exact I1.bare) (fun _ z => nomatch z)
  have e : s' = { ({ s1 with heap := k, toks := u } : Shared) with heap := s'.heap, gens := s'.gens, drawn := s'.drawn, toks := s'.toks } := by
    cases s'
    cases s1
    cases hos
    rfl
  rw [e]
  exact ⟨.ref b, _, J, rfl, fin ms b hsort (fun z => (hmem z).trans decide_eq_true_iff) hn⟩
def wSortSetF (w : WE) : WE := fun δ P => w δ fun r δ1 => ∃ ns D : List Int, r.as = .list (ns.map PyData.int) ∧ ns.length ≤ 4000 ∧ (∀ k ∈ ns, k ∈ D) ∧ D.length < 60 ∧ ∀ ms : List Int, ms.Pairwise (· < ·) → (∀ k : Int, k ∈ ms ↔ k ∈ ns) → P (.l (ms.map PyData.int)) δ1
theorem de_sortedSetF (hc : X.calm = true) (hg : Gl X "sorted") (hm : X.mg "sorted" = none) (hg2 : Gl X "set") (hm2 : X.mg "set" = none) (ha : DE X a wa) (na : starEach [a] X.env = (false, eval a X.env) :: starEach [] X.env := by rfl) :
    DE X (.Call (.Name "sorted" p) [.Call (.Name "set" p2) [a] [] q] [] pos) (wSortSetF wa) := by
  refine pe_weak (pe_sortSetF hc hg hm hg2 hm2 ha na) fun σ H Q ⟨O, δ, P, R0, w, f⟩ => ?_
  refine ⟨O, δ, _, R0, w, fun r δ1 v H1 w1 s1 R1 k1 => ?_⟩
  obtain ⟨ns, D, er, long, inD, few, w1⟩ := w1
  have dq := held0 R0 k1 R1
  rw [er] at dq
  obtain ⟨l, xs, rfl, sq, dx⟩ := dq.lst hid_le
  have ev := ints_dp dx (ints_map ns)
  subst ev
  exact ⟨l, ns, D, rfl, sq, long, inD, few, fun ms b m1 m2 hb => (fin_of R0 s1 R1 f).2.1 _ _ b (w1 ms m1 m2) (dp_ints ms) hb⟩
end
end Dw
namespace Dw
open PySem PySem.Spec PyProof.Rows L2
theorem dt_lele {X : Cx} {a b c : Expr} {wa wb wc : WE} {pos : Pos} (ha : DE X a wa) (hb : DE X b wb) (hc : DE X c wc) (hm : lastMarks [.LtE, .LtE] [b, c] = false := by with_unfolding_all rfl) : DT X (.Compare a [.LtE, .LtE] [b, c] pos) (wB (wChain (rI1 fun i j => .bool (decide (i ≤ j))) (rI1 fun i j => .bool (decide (i ≤ j))) wa wb wc)) :=
  pt_weak (pt_chain op_le op_le ha hb hc hm) fun _ _ _ q => lift_chain (opd_I0 fun _ _ _ => .bl _) (opd_I0 fun _ _ _ => .bl _) (liftB q)
end Dw
namespace B
open PySem PySem.Spec PyProof.Rows L2 Dw
local macro_rules | `(tactic| walk_at "ds") => `(tactic| try dsimp only [wRet, wRetN, sPu, wThenX, wIfX, wRetX, wDropX, wSetX, wCallX, wCallP, uPu, wPu, uConsX, wRaise, wDc, wDcT, wDZ, wD1, wGet1, wGet2, wGetT, wThen, wIfS, wIf, wNotT, Dw.wTru, wB, w2, wV, wC, wCons, wNil, wCall, wCallO, wCallO1, endO, wCB, wLc, wSeq, wYes, wNext, wNever, wDrop, wSet, wAsg, wPair, wFor, wTup, wLst, wAndV, wOrV, wNotV, wNeg, wAndT, wOrT, wIsi, wChain, wSlice, wPart, wNo, wZip, wEnum, wRng1, wRng2, wLc2, wApp, wApp1, wPop, wPop1, wExt, wExt1, wSetI, wSetI1, wSetD, wDat, wTupRg, wLstRg, wTupS, wCBX, wCallE, wCallPE, rngL, wIdx, wIdx1, wExtL, wExtL1, wLenM, wNotInM, wGetM, wPutM, wPutM1, wSetK, wTri, wForget, rCatTD, rCatLD, intsR, Option.map_some, bN, bTup, bCons, bNil, as_d, as_l, as_b, noB_d, noB_l, still_d, still_l, still_b, put_d, put_l, tru_bool, tru_tup, tru_lst, isT_tup, isI_int, isB_int, stillA_nil, stillA_cons, map0, map1, map2, map3, len_l, len_t, tup_l, tup_t, lst_l, lst_t, max_i, min_i, List.all_cons, List.all_nil, Bool.and_self, Bool.and_true, Bool.not_true, Bool.not_false, List.getElem?_cons_zero, List.getElem?_cons_succ, List.cons_append, List.nil_append, List.append_nil, List.reduceReplicate, Nat.reduceSub, Nat.sub_self, rI1, rI2, rAddD, rSubD, rMulD, rDivD, rModD, rPowD, rLtD, rLeD, rGtD, rGeD, List.set_cons_zero, List.set_cons_succ, List.set_nil, endsOf, outD, wipeD])
structure PartsOk (m : Int) (ps : List (List Int)) : Prop where
  one : 1 ≤ ps.length
  few : ps.length ≤ 5
  all : ∀ p ∈ ps, ColsOk m p ∧ p ≠ []
  cov : ∀ c : Nat, c < m.toNat → ∃ p ∈ ps, ((c : Nat) : Int) ∈ p
end B
namespace B
open PySem PySem.Spec PyProof.Rows L2 Dw
local macro_rules | `(tactic| walk_at "ds") => `(tactic| try dsimp only [wRet, wRetN, sPu, wThenX, wIfX, wRetX, wDropX, wSetX, wCallX, wCallP, uPu, wPu, uConsX, wRaise, wDc, wDcT, wDZ, wD1, wGet1, wGet2, wGetT, wThen, wIfS, wIf, wNotT, Dw.wTru, wB, w2, wV, wC, wCons, wNil, wCall, wCallO, wCallO1, endO, wCB, wLc, wSeq, wYes, wNext, wNever, wDrop, wSet, wAsg, wPair, wFor, wTup, wLst, wAndV, wOrV, wNotV, wNeg, wAndT, wOrT, wIsi, wChain, wSlice, wPart, wNo, wZip, wEnum, wRng1, wRng2, wLc2, wApp, wApp1, wPop, wPop1, wExt, wExt1, wSetI, wSetI1, wSetD, wDat, wTupRg, wLstRg, wTupS, wCBX, wCallE, wCallPE, rngL, wIdx, wIdx1, wExtL, wExtL1, wLenM, wNotInM, wGetM, wPutM, wPutM1, wSetK, wTri, wForget, rCatTD, rCatLD, intsR, Option.map_some, bN, bTup, bCons, bNil, as_d, as_l, as_b, noB_d, noB_l, still_d, still_l, still_b, put_d, put_l, tru_bool, tru_tup, tru_lst, isT_tup, isI_int, isB_int, stillA_nil, stillA_cons, map0, map1, map2, map3, len_l, len_t, tup_l, tup_t, lst_l, lst_t, max_i, min_i, List.all_cons, List.all_nil, Bool.and_self, Bool.and_true, Bool.not_true, Bool.not_false, List.getElem?_cons_zero, List.getElem?_cons_succ, List.cons_append, List.nil_append, List.append_nil, List.reduceReplicate, Nat.reduceSub, Nat.sub_self, rI1, rI2, rAddD, rSubD, rMulD, rDivD, rModD, rPowD, rLtD, rLeD, rGtD, rGeD, List.set_cons_zero, List.set_cons_succ, List.set_nil, endsOf, outD, wipeD])
def S_law_case : WE := fun δ P => ∃ xs n, δ = [.o xs] ∧ Pen n xs ∧ n ≤ 980000 ∧ ∀ ys m rl, Pen (n + 101) ys → 1 ≤ m → m ≤ 5 → RulesOk m rl → P (.d (.tuple [.int m, rulesD rl])) [.o ys]
def wb_law_case : WS := (wThen (wSet 1 (w2 rAddD (wC (.int 1)) (wCallO S_law_draw 0 (wCons (wC (.int 5)) wNil))))
      (wRet (wTup (wCons (wV 1) (wCons (wCallO S_law_rules 0 (wCons (wV 1) (wCons (wC (.int 8)) wNil))) wNil)))))
theorem hS_law_case : ∀ δ P, S_law_case δ P → ArgOk 1 δ ∧ wb_law_case (endsOf δ P) (δ ++ List.replicate (2 - 1) Sl.un) := by
  rintro δ P ⟨xs, n, rfl, hp, hn, h⟩
  refine ⟨argO _ [], ?_⟩
  unfold wb_law_case
  refine seqT fun T hT => ?_
  walk_at "ds"
  refine ⟨rfl, xs, n, 5, rfl, hp, by omega, by decide, by decide, fun us d hu d0 d5 => ?_⟩
  walk_at "ds"
  generalize hm : 1 + d = m
  subst hT
  walk_at "ds"
  refine ⟨rfl, us, n + 1, m, 8, rfl, hu, by omega, by omega, by omega, by decide, by decide, fun vs rl hv hr => ?_⟩
  walk_at "ds"
  exact ⟨⟨rfl, by simp⟩, h vs m rl (hv.mono (by omega)) (by omega) (by omega) hr⟩
end B
namespace B
open PySem PySem.Spec PyProof.Rows L2 Dw
local macro_rules | `(tactic| walk_at "ds") => `(tactic| try dsimp only [wRet, wRetN, sPu, wThenX, wIfX, wRetX, wDropX, wSetX, wCallX, wCallP, uPu, wPu, uConsX, wRaise, wDc, wDcT, wDZ, wD1, wGet1, wGet2, wGetT, wThen, wIfS, wIf, wNotT, Dw.wTru, wB, w2, wV, wC, wCons, wNil, wCall, wCallO, wCallO1, endO, wCB, wLc, wSeq, wYes, wNext, wNever, wDrop, wSet, wAsg, wPair, wFor, wTup, wLst, wAndV, wOrV, wNotV, wNeg, wAndT, wOrT, wIsi, wChain, wSlice, wPart, wNo, wZip, wEnum, wRng1, wRng2, wLc2, wApp, wApp1, wPop, wPop1, wExt, wExt1, wSetI, wSetI1, wSetD, wDat, wTupRg, wLstRg, wTupS, wCBX, wCallE, wCallPE, rngL, wIdx, wIdx1, wExtL, wExtL1, wLenM, wNotInM, wGetM, wPutM, wPutM1, wSetK, wTri, wForget, rCatTD, rCatLD, intsR, Option.map_some, bN, bTup, bCons, bNil, as_d, as_l, as_b, noB_d, noB_l, still_d, still_l, still_b, put_d, put_l, tru_bool, tru_tup, tru_lst, isT_tup, isI_int, isB_int, stillA_nil, stillA_cons, map0, map1, map2, map3, len_l, len_t, tup_l, tup_t, lst_l, lst_t, max_i, min_i, List.all_cons, List.all_nil, Bool.and_self, Bool.and_true, Bool.not_true, Bool.not_false, List.getElem?_cons_zero, List.getElem?_cons_succ, List.cons_append, List.nil_append, List.append_nil, List.reduceReplicate, Nat.reduceSub, Nat.sub_self, rI1, rI2, rAddD, rSubD, rMulD, rDivD, rModD, rPowD, rLtD, rLeD, rGtD, rGeD, List.set_cons_zero, List.set_cons_succ, List.set_nil, endsOf, outD, wipeD])
end B
namespace B
open PySem PySem.Spec PyProof.Rows L2 Dw
local macro_rules | `(tactic| walk_at "ds") => `(tactic| try dsimp only [wRet, wRetN, sPu, wThenX, wIfX, wRetX, wDropX, wSetX, wCallX, wCallP, uPu, wPu, uConsX, wRaise, wDc, wDcT, wDZ, wD1, wGet1, wGet2, wGetT, wThen, wIfS, wIf, wNotT, Dw.wTru, wB, w2, wV, wC, wCons, wNil, wCall, wCallO, wCallO1, endO, wCB, wLc, wSeq, wYes, wNext, wNever, wDrop, wSet, wAsg, wPair, wFor, wTup, wLst, wAndV, wOrV, wNotV, wNeg, wAndT, wOrT, wIsi, wChain, wSlice, wPart, wNo, wZip, wEnum, wRng1, wRng2, wLc2, wApp, wApp1, wPop, wPop1, wExt, wExt1, wSetI, wSetI1, wSetD, wDat, wTupRg, wLstRg, wTupS, wCBX, wCallE, wCallPE, rngL, wIdx, wIdx1, wExtL, wExtL1, wLenM, wNotInM, wGetM, wPutM, wPutM1, wSetK, wTri, wForget, rCatTD, rCatLD, intsR, Option.map_some, bN, bTup, bCons, bNil, as_d, as_l, as_b, noB_d, noB_l, still_d, still_l, still_b, put_d, put_l, tru_bool, tru_tup, tru_lst, isT_tup, isI_int, isB_int, stillA_nil, stillA_cons, map0, map1, map2, map3, len_l, len_t, tup_l, tup_t, lst_l, lst_t, max_i, min_i, List.all_cons, List.all_nil, Bool.and_self, Bool.and_true, Bool.not_true, Bool.not_false, List.getElem?_cons_zero, List.getElem?_cons_succ, List.cons_append, List.nil_append, List.append_nil, List.reduceReplicate, Nat.reduceSub, Nat.sub_self, rI1, rI2, rAddD, rSubD, rMulD, rDivD, rModD, rPowD, rLtD, rLeD, rGtD, rGeD, List.set_cons_zero, List.set_cons_succ, List.set_nil, endsOf, outD, wipeD])
end B
namespace L2
open PySem PySem.Spec PyProof.Rows
section
variable {X : Cx}
end
end L2
namespace Dw
open PySem PySem.Spec PyProof.Rows L2
theorem int_inj {a b : List Int} (h : a.map PyData.int = b.map PyData.int) : a = b := by
  induction a generalizing b with
  | nil => cases b with
    | nil => rfl
    | cons x b => cases h
  | cons x a ih => cases b with
    | nil => cases h
    | cons y b =>
      rw [List.map_cons, List.map_cons, List.cons.injEq, PyData.int.injEq] at h
      rw [h.1, ih h.2]
theorem xD_inj {a b : List Int} (h : xD a = xD b) : a = b := by
  have : a.map PyData.int = b.map PyData.int := by simpa using h
  exact int_inj this
theorem dp_xt {K : PySem.W.Frag} {G : Hp} {v : V} {ns : List Int} (h : Dp K G v (xD ns)) : ∃ a o, v = .ref a ∧ G a = some (.frz o (.tup (ns.map V.int))) ∧ o.dict = none := by
  generalize e : xD ns = d at h
  cases h with
  | xt h1 h2 => have := xD_inj e; subst this; exact ⟨_, _, rfl, h1, h2⟩
  | _ => exact absurd e (by simp)
theorem Dq.xt {K : PySem.W.Frag} {G H : Hp} {v : V} {ns : List Int} (s : Same G H) (h : Dq K G H v (xD ns)) : ∃ a, v = .ref a ∧ SqT K H a (ns.map V.int) := by
  rcases h with h | ⟨_, _, _, _, e, _⟩
  · obtain ⟨a, o, rfl, h1, _⟩ := dp_xt h
    exact ⟨a, rfl, .inl (.inr ⟨o, s _ _ h1⟩)⟩
  · cases e
section
variable {X : Cx} {a b e e2 tg : Expr} {wa wb we : WE} {pos p p2 p3 tpos apos cpos : Pos} {es elts : List Expr} {ua : WA} {kk : Nat} {y : Str}
theorem shaped_ints (ns : List Int) : SeqAt.shaped (.tuple (ns.map PyData.int)) = true := by
  have h1 : ∀ ns : List Int, PyData.canLayAll0 (ns.map PyData.int) = true ∧ PyData.depthAll (ns.map PyData.int) = 0 := by
    intro ns
    induction ns with
    | nil => exact ⟨rfl, by simp [PyData.depthAll]⟩
    | cons p r ih => exact ⟨by simp only [List.map_cons, PyData.canLayAll0, ih.1, PyData.canLay0, Bool.and_self], by simp only [List.map_cons, PyData.depthAll, PyData.depth, ih.2]; rfl⟩
  unfold SeqAt.shaped
  rw [Bool.and_eq_true]
  refine ⟨?_, decide_eq_true ?_⟩
  · simp only [PyData.canLay0]
    exact (h1 ns).1
  · simp only [PyData.depth, (h1 ns).2]; omega
end
end Dw
namespace HT
open PySem PySem.Spec PyProof.Rows
section
variable {prog : Program} {w : World} {A : Around} {E : Value → Shared → Prop} {s : Shared}
end
end HT
namespace L2
open PySem PySem.Spec PyProof.Rows
section
variable {X : Cx}
end
end L2
namespace Dw
open PySem PySem.Spec PyProof.Rows L2
section
variable {X : Cx} {a b e : Expr} {wa wb we : WE} {pos pos2 p p1 p2 p3 : Pos} {ua : WA} {k : Nat}
def wRevT (w : WE) : WE := fun δ P => w δ fun r δ1 => ∃ xs : List PyData, r = .d (.tuple xs) ∧ P (.d (.tuple xs.reverse)) δ1
end
end Dw
namespace Dw
open PySem PySem.Spec PyProof.Rows L2
theorem dp_adL {K : PySem.W.Frag} {H : Hp} {v : V} {a : Nat} (h : Dp K H v (adD a)) : v = .ref a := by
  generalize e : adD a = d at h
  cases h with
  | ad =>
    rename_i b
    simp only [adD, PyData.dict.injEq, List.cons.injEq, Prod.mk.injEq, PyData.int.injEq, true_and, and_true] at e
    have : a = b := by omega
    rw [this]
  | _ => simp [adD, dkD, dtD, e0D, xD, dnD, obD] at e
def rCntF (K : PySem.W.Frag) : V → List V → Hp → VK → Prop := fun x xs H Q => ∃ (a : Addr) (ys : List V) (y : V), x = V.ref a ∧ xs = [y] ∧ SqL K H a ys ∧ flatV y = true ∧ ys.all flatV = true ∧ Q (.int ((ys.countP fun z => eqV z y : Nat) : Int)) H
theorem cnt_eq {y : V} : ∀ {ys : List V} {us : List Value}, Vals ys us → ys.all flatV = true → us.countP (eqU y) = ys.countP fun z => eqV z y
  | [], _, r, _ => by cases r; rfl
  | z :: ys, _, r, f => by
    cases r with
    | cons h t =>
      rw [List.all_cons, Bool.and_eq_true] at f
      rw [List.countP_cons, List.countP_cons, cnt_eq t f.2, eqU_of h f.1]
theorem mt_fcount {X : Cx} : MtR X "list.count" (rCntF X.K) := by
  intro pins s σ H x xs v us Q I rx rxs h
  obtain ⟨a, ys, y, rfl, rfl, hs, fy, fys, q⟩ := h
  cases rx
  obtain ⟨uy, rfl, ry⟩ := rxs.one
  obtain ⟨its, rv, ⟨⟨cls, dd, data, sl⟩, n, ho, hc, hdn, hd⟩, hlen⟩ := I.list hs
  simp only at hc hd
  subst hc hd
  refine call_meets PySem.F.slot_list_count ⟨_, ho, rfl⟩ PySem.F.entry_list_count (PySem.F.args_list_count_2 _ _)
    (SeqAt.list_countAt a its.toArray n dd sl uy (eqU y)) ⟨ho, fun u' hu' => mem_eqAt ry fy rv fys u' (by simpa using hu'), ?_⟩
  have ec : its.toArray.toList.countP (eqU y) = ys.countP fun z => eqV z y := cnt_eq rv fys
  refine ⟨.int ((ys.countP fun z => eqV z y : Nat) : Int), H, I.tok _, ⟨s.toks, ?_⟩, q⟩
  show Value.int ((its.toArray.toList.countP (eqU y) : Nat) : Int) s.toks = _
  rw [ec]
section
variable {X : Cx} {e : Expr} {we : WE} {pos p p2 apos cpos : Pos} {y : Str}
def wCntL1 (P : Rv → Dl → Prop) (ys : List PyData) (r : Rv) (δ1 : Dl) : Prop := match r with
  | .d x => (flat x = true ∧ ys.all flat = true) ∧ P (.d (.int ((ys.countP fun z => PyData.eqv z x : Nat) : Int))) δ1
  | _ => False
def wCntL (i : Nat) (w : WE) : WE := fun δ P => match δ[i]? with
  | some (.d (.list ys)) => w δ fun r δ1 => wCntL1 P ys r δ1
  | _ => False
theorem cnt_dp {K : PySem.W.Frag} {H : Hp} {v : V} {x : PyData} (dx : Dp K H v x) (fx : flat x = true) : ∀ {ds : List PyData} {us : List V}, DpAll K H us ds → ds.all flat = true → (us.countP fun z => eqV z v) = ds.countP fun z => PyData.eqv z x
  | [], _, h, _ => by cases h; rfl
  | d :: ds, _, h, f => by
    cases h with
    | cons h1 h2 =>
      rw [List.all_cons, Bool.and_eq_true] at f
      rw [List.countP_cons, List.countP_cons, cnt_dp dx fx h2 f.2, dp_eqv h1 dx f.1 fx]
theorem de_count (i : Nat) (he : DE X e we) (hN : X.N[i]? = some y := by rfl) (hv : Vis X.env.scope y := by first | exact Or.inl rfl | exact Or.inr (Or.inl rfl) | exact Or.inr (Or.inr rfl)) (hy : (y == ("__debug__" : Str)) = false := by decide) (hcd : (y == ("__classdict__" : Str)) = false := by decide)
    (hbase : attributeBase (.Name y p) "count" X.env (eval (.Name y p) X.env) = eval (.Name y p) X.env := by rfl)
    (hfew : ((backTo cpos (starEach [e] X.env)).all (fun x => !x.1) && (backToKw cpos (keywordEach [] X.env)).all (fun x => x.1.isSome) && decide ([e].length + ([] : List Keyword).length + (if ([] : List Keyword).isEmpty then 0 else 1) < 30)) = true := by rfl)
    (hline : (apos.endLine == cpos.line) = true := by rfl) (hs : starEach [e] X.env = (false, eval e X.env) :: starEach [] X.env := by rfl) :
    DE X (.Call (.Attribute (.Name y p) "count" apos) [e] [] cpos) (wCntL i we) := by
  refine pe_weak (pe_bm PySem.F.plainAttrs_list PySem.F.slot_list_count PySem.F.type_list_count mt_fcount (pe_var hN hv hy hcd) (pa_cons he pa_nil hs) hbase hfew hline hs) fun σ H Q ⟨O, δ, P, R0, w, f⟩ => ?_
  unfold wCntL at w
  split at w
  · rename_i ys e0
    obtain ⟨v0, ea, d0⟩ := R0.dat i _ e0
    cases d0 with
    | lst hq ha =>
      rename_i a us
      refine ⟨.ref a, ea, .inl ⟨rfl, us, sl_mono hid_le hq⟩, O, δ, _, R0, w, fun r δ1 v H1 w1 s1 R1 k1 => ?_⟩
      unfold wCntL1 at w1
      split at w1
      · rename_i x
        obtain ⟨⟨f1, f2⟩, w1⟩ := w1
        have dx : Dp X.K (hid H1 O) v x := k1
        have ha1 := DpAll.up ha s1.same
        refine ⟨a, us, v, rfl, rfl, sl_mono (s1.same.trans hid_le) hq, dp_flat dx f1, da_flat ha1 f2, ?_⟩
        rw [cnt_dp dx f1 ha1 f2]
        exact f _ _ _ _ w1 s1 R1 (.int _)
      · exact w1.elim
  · exact w.elim
theorem call_isP {a D : Addr} {oe : Obj} (hp : (a, oe) ∈ X.pn) (C : ExcC X.K D) (hz : Zc (.ref D) none oe) (hf : ∃ vs, oe.data = .fields vs) : CallR X (.builtin "isinstance") (rIsE X.K D a) := by
  rintro pins s σ H _ us Q I r ⟨c, cv, b, rfl, hcv, e, q⟩
  cases r with
  | cons ra rr =>
  cases rr with
  | cons rc rr =>
  cases rr
  cases ra
  rw [hcv _ rc]
  have hget := (I.pin (a, oe) (List.mem_append.mpr (.inl hp))).1
  obtain ⟨vs, hv⟩ := hf
  obtain ⟨ocls, odict, odata, oslots⟩ := oe
  obtain ⟨z1, z2⟩ := hz
  dsimp only at z1 z2 hv
  subst z1 z2 hv
  exact PySem.W.kia_one (PySem.W.handS_kitx_exc C.hg C.hk C.hs C.hd C.ha C.hn C.ht C.hm) I.kIn (⟨hget, rfl, rfl, trivial⟩ : PySem.W.InstAt s.heap a _ D none) e (fun z => nomatch z) fun tk => ⟨.bl b, H, I.kept (t' := tk) fun _ _ z => z, rfl, q⟩
structure PinE (X : Cx) (a : Addr) (n : Str) : Prop where
  ex : ∃ (D : Addr) (oe : Obj), X.mg n = some (.ref D) ∧ (a, oe) ∈ X.pn ∧ ExcC X.K D ∧ Zc (.ref D) none oe ∧ ∃ vs, oe.data = .fields vs
def KitN (K : PySem.W.Frag) (mg : Str → Option Value) (x : Str) (cv : Value) (b : Str → Bool) (ns : List Str) : Prop := ∀ n ∈ ns, ∀ D, mg n = some (.ref D) → PySem.W.kitOne K (.ref D) cv = some (b n)
def wIsE (a : Addr) (b : Bool) (w : WE) : WE := fun δ P => w δ fun r δ1 => r = .d (adD a) ∧ P (.d (.bool b)) δ1
theorem de_isE {a C : Addr} {n x : Str} {ns : List Str} {b : Str → Bool} (pe : PinE X a n) (hn : n ∈ ns) (hk : KitN X.K X.mg x (.ref C) b ns) (hg : Gl X "isinstance") (hm : X.mg "isinstance" = none) (he : DE X e we) (hgx : Gl X x) (hmx : X.mg x = some (.ref C))
    (h1 : starEach [e, .Name x p2] X.env = (false, eval e X.env) :: starEach [.Name x p2] X.env := by rfl) (h2 : starEach [.Name x p2] X.env = (false, eval (.Name x p2) X.env) :: starEach [] X.env := by rfl) (hpl : (backTo pos (starEach [.Name x p2] X.env)).any (·.1) = false := by rfl)
    (hd : (x == ("__debug__" : Str)) = false := by decide) : DE X (.Call (.Name "isinstance" p) [e, .Name x p2] [] pos) (wIsE a (b n) we) := by
  obtain ⟨D, oe, e1, e2, e3, e4, e5⟩ := pe.ex
  refine pe_weak (pe_callB (call_isP e2 e3 e4 e5) hg hm (by decide +kernel) (pa_cons he (pa_cons (pe_glob hgx hmx (v := .ref C) rfl hd) pa_nil h2) h1) (he := h1) (hpl := hpl)) fun σ H Q ⟨O, δ, P, R0, w, g⟩ => ?_
  refine ⟨O, δ, _, R0, w, fun r δ1 v H1 w1 s1 R1 k1 => ?_⟩
  obtain ⟨er, w1⟩ := w1
  subst er
  have ev := dp_adL k1
  subst ev
  exact ⟨.ref C, .ref C, b n, rfl, fun u ru => (by cases ru; rfl), hk n hn D e1, g _ _ _ _ w1 s1 R1 (.bl _)⟩
theorem de_isEB {a : Addr} {n x : Str} {T : String} {ns : List Str} {b : Str → Bool} (pe : PinE X a n) (hn : n ∈ ns) (hk : KitN X.K X.mg x (.type T) b ns) (hg : Gl X "isinstance") (hm : X.mg "isinstance" = none) (he : DE X e we) (hgx : Gl X x) (hmx : X.mg x = none) (hv : bootBuiltins x = some (.type T))
    (h1 : starEach [e, .Name x p2] X.env = (false, eval e X.env) :: starEach [.Name x p2] X.env := by rfl) (h2 : starEach [.Name x p2] X.env = (false, eval (.Name x p2) X.env) :: starEach [] X.env := by rfl) (hpl : (backTo pos (starEach [.Name x p2] X.env)).any (·.1) = false := by rfl)
    (hnm : x ≠ "__name__" := by decide) (hd : (x == ("__debug__" : Str)) = false := by decide) : DE X (.Call (.Name "isinstance" p) [e, .Name x p2] [] pos) (wIsE a (b n) we) := by
  obtain ⟨D, oe, e1, e2, e3, e4, e5⟩ := pe.ex
  refine pe_weak (pe_callB (call_isP e2 e3 e4 e5) hg hm (by decide +kernel) (pa_cons he (pa_cons (pe_bltn hgx hmx hv (v := .ty T) rfl hnm hd) pa_nil h2) h1) (he := h1) (hpl := hpl)) fun σ H Q ⟨O, δ, P, R0, w, g⟩ => ?_
  refine ⟨O, δ, _, R0, w, fun r δ1 v H1 w1 s1 R1 k1 => ?_⟩
  obtain ⟨er, w1⟩ := w1
  subst er
  have ev := dp_adL k1
  subst ev
  exact ⟨.ty T, .type T, b n, rfl, fun u ru => (by cases ru; rfl), hk n hn D e1, g _ _ _ _ w1 s1 R1 (.bl _)⟩
end
end Dw
namespace L2H
theorem RoomH.units {k : Nat} {A : PySem.Around} (r : RoomH k A) : A.units + 64 < PySem.cLine := by have := r.un; omega
end L2H
namespace Dw
open PySem PySem.Spec PyProof.Rows L2
theorem rep_nil {K : PySem.W.Frag} {O : Addr → Prop} {H : Hp} (occ : ∀ a, O a → ∃ o, H a = some o) : Rep K O [] [] H :=
  ⟨rfl, fun i x e => (by simp at e), fun i xs e => (by simp at e), fun i j xs ys a e => (by simp at e), occ, .none fun i s e => (by simp at e)⟩
def PBody (P : Program) (w : World) (K : PySem.W.Frag) (mg : Str → Option Value) (base : Heap) (k : Nat) (f : Addr) (fd : FuncData) (y : Str) (ns : List Str) (wd : Str → Str) : Prop :=
  ∀ (A : Around) (outer : List Env) (s : Shared) (H : Hp) (args : Args) (Q : VK) (p : Addr × Obj) (n : Str) (D : Addr) (O : Addr → Prop), L2H.RoomH k A → L2H.PinOk outer H s p → mg n = some (.ref D) → Zc (.ref D) none p.2 → (∃ vs, p.2.data = .fields vs) → n ∈ ns →
      Env0 P w K mg base A outer s H → BindsTo s fd args [(y, .ref p.1)] → (∀ a, O a → ∃ o, H a = some o) → (∀ H', Same (hid H O) (hid H' O) → (∀ a, O a → H' a = H a) → Q (.str (wd n)) H') →
      codeAny (model P w) A (.call (.ref f) args) (CR CX0 outer P w H s Q E0) s
structure FnP (P : Program) (w : World) (K : PySem.W.Frag) (mg : Str → Option Value) (base : Heap) (k : Nat) (x : Str) (ns : List Str) (wd : Str → Str) : Prop where
  ex : ∃ (f : Addr) (fd : FuncData) (y : Str), mg x = some (.ref f) ∧ PySem.W.keepIn K (.ref f) = true ∧ Binds K fd [y] [] ∧ PBody P w K mg base k f fd y ns wd
theorem fnP_of {P : Program} {w : World} {K : PySem.W.Frag} {mg : Str → Option Value} {base : Heap} {x qual : Str} {st : Stmt} {f : Addr} {fd : FuncData} {N : List Str} {y : Str} {k : Nat} {ns : List Str} {wd : Str → Str} {wb : Addr → Str → WS} (F : Fun K x qual st f fd) (Sc : FnScope N [y] (defScope st)) (hN : 1 ≤ N.length)
    (hc : ∀ n ∈ ns, ∀ D, mg n = some (.ref D) → ExcC K D)
    (hS : ∀ (a : Addr) (n : Str), n ∈ ns → wb a n (endsOf [.d (adD a)] fun r _ => r = .d (.str (wd n))) ([.d (adD a)] ++ List.replicate (N.length - 1) Sl.un))
    (hbody : ∀ (cdv : Value) (A : Around) (outer : List Env) (s : Shared) (H : Hp) (p : Addr × Obj) (n : Str), n ∈ ns → L2H.RoomH k (A.deeper (envOfC qual (defScope st) s.heap.objs.size f cdv)) →
      PinE (L2H.cxH CX0 P w K mg base N qual (defScope st) f cdv A outer s H E0 p).nox p.1 n → DSs (L2H.cxH CX0 P w K mg base N qual (defScope st) f cdv A outer s H E0 p).nox (defBody st) (wb p.1 n)) :
    PBody P w K mg base (k + 1) f fd y ns wd := by
  intro A outer s H args Q p n D O room pin hD hz hv hn e0 hb occ hq
  obtain ⟨oc, od, kV, doc, pm, an, cdv, ct, osl, rfl, lk, hcd⟩ := F.ex
  have kin : K.In s.heap := e0.mod.kin.keeps fun b o e => (e0.bs b o e).1
  have nol : s.heap.NoLimit := e0.mod.nolimit.keeps fun b o e => (e0.bs b o e).1
  have kinds : ∀ z ∈ ([y].zip [Value.ref p.1]), (defScope st).names.lookup z.1 = some .local ∨ ((defScope st).names.lookup z.1 = some .cell ∧ ((cellsFrom (s.heap.objs.size + 1) (defScope st).names []).lookup z.1).isSome = true) := by
    rintro ⟨m, u⟩ hm
    exact (Sc.par m (List.of_mem_zip hm).1).imp id fun q => ⟨q, PySem.W.cellsFrom_some _ _ _ (.inl q)⟩
  refine codeAny_call_function room.depth (kin _ _ lk) rfl Sc.co Sc.gen rfl (PySem.W.codeRec_of kin hcd) (hb _ _ _ _ ?_)
  refine wpAny_newFunctionEnv_cells Sc.kind kinds fun env ee s1 y1 => ?_
  subst ee
  refine ⟨nol.keeps y1.toInCall.keep, codeAny_func ?_⟩
  have R0 : Rep K O ([adD p.1].map Sl.d) ([V.ref p.1].map some) H := rep_args (rep_nil occ) (.cons .ad .nil)
  obtain ⟨R2, En, _⟩ := start_ok (N := N) (ps := [y]) (ys := [V.ref p.1]) (Pd := fun r _ => r = .d (.str (wd n))) (Q := Q) rfl R0 (argD [adD p.1]) fun r δ' v H' er s1 R1 k1 => by
    subst er
    have k1 : Dp K (hid H' O) v (.str (wd n)) := k1
    cases k1
    exact hq H' s1.same fun a z => s1.frame a z fun z => by
      rcases z with ⟨i, xs, e1, _⟩ | ⟨i, xs, e1, _⟩ <;> (cases i with
        | zero => cases e1
        | succ i => simp at e1)
  have I : Inv (L2H.cxH CX0 P w K mg base N qual (defScope st) f cdv A outer s H E0 p) [] (L2.start N [V.ref p.1]) H s1 := L2H.inv_startH Sc pin e0 rfl (.cons rfl .nil) y1
  have go := hbody cdv A outer s H p n hn (room.deeper _) ⟨D, p.2, hD, List.mem_singleton.mpr rfl, hc n hn D hD, hz, hv⟩
  refine wpAny_mono (PSs.nox go |>.run [] s1 (L2.start N [V.ref p.1]) H { nx := fun _ G' => Q .non G', rt := Q } I ⟨O, _, _, R2, hS p.1 n hn, En⟩) (fun fl s' hs => ?_) fun _ _ z => z
  have done : ∀ {τ : L2.St} {G' : Hp} {v : V} {u : Value}, Inv (L2H.cxH CX0 P w K mg base N qual (defScope st) f cdv A outer s H E0 p) [] τ G' s' → RelV v u → Q v G' → CE outer P w H s Q u s' :=
    fun J rv q => ⟨_, _, J.os, J.bare, J.base, J.hok, rv, q⟩
  cases fl with
  | ret u => obtain ⟨v, τ, G', J, rv, q⟩ := hs; exact done J rv q
  | next => obtain ⟨τ, G', J, q⟩ := hs; exact done (v := V.non) (u := Value.none) J rfl q
  | brk => obtain ⟨_, _, _, q⟩ := hs; exact q.elim
  | cont => obtain ⟨_, _, _, q⟩ := hs; exact q.elim
theorem fn_inP {P : Program} {w : World} {K : PySem.W.Frag} {mg : Str → Option Value} {base h : Heap} {x : Str} {st : Stmt} {y : Str} {k : Nat} {ns : List Str} {wd : Str → Str} (X : K.In h) (G : h.Ns mainGlobals mg) (d : DefIn K x st)
    (hb : ∀ (kV doc pm : Value) (an : Option Addr) (cdv ct : Value) (us : List Value), us.length = ([y] : List Str).length → bindArgs (PySem.W.fnOf x x (defArgs st) (defBody st) (defScope st) .none kV doc pm an cdv ct) ⟨us, []⟩ = pure ([y].zip us))
    (ok : ∀ {f : Addr} {fd : FuncData}, Fun K x x st f fd → PBody P w K mg base k f fd y ns wd) : FnP P w K mg base k x ns wd := by
  obtain ⟨f, oc, od, kV, dc, pm, an, cd, ct, sl, a, l, c, kp⟩ := d
  have F := fun_mk (st := st) l c kp
  exact ⟨f, _, y, PySem.W.mg_of X G a, kp, F.binds hb, ok F⟩
def wStrE (a : Addr) (z : Str) (w : WE) : WE := fun δ P => w δ fun r δ1 => r = .d (adD a) ∧ P (.d (.str z)) δ1
theorem de_callP {X : Cx} {k : Nat} {x n : Str} {ns : List Str} {wd : Str → Str} {a : Addr} {e : Expr} {we : WE} {p pos : Pos} (pe : PinE X a n) (hn : n ∈ ns) (F : FnP X.prog X.w X.K X.mg X.base k x ns wd) (room : L2H.RoomH k X.A) (hg : Gl X x) (he : DE X e we)
    (hdb : (x == ("__debug__" : Str)) = false := by decide) (hs : starEach [e] X.env = (false, eval e X.env) :: starEach [] X.env := by rfl) (hpl : (backTo pos (starEach [] X.env)).any (·.1) = false := by rfl) : DE X (.Call (.Name x p) [e] [] pos) (wStrE a (wd n) we) := by
  obtain ⟨f, fd, y, hm, hk, hb, go⟩ := F.ex
  obtain ⟨D, oe, d1, d2, d3, d4, d5⟩ := pe.ex
  refine ⟨fun pins s σ H Q I ⟨O, δ, P, R0, w, g⟩ => wpAny_Call_Name_kw (ld_glob I hg hm ?_ hdb)⟩
  refine PySem.W.callWith_K (h₀ := X.base) I.ok.mod.kin hk (thn ((pa_cons he pa_nil hs).run pos pins s σ H (fun vs H1 => ∃ r δ1 v, vs = [v] ∧ (r = .d (adD a) ∧ P (.d (.str (wd n))) δ1) ∧ Stp O δ δ1 σ H H1 ∧ Rep X.K O δ1 σ H1 ∧ RvOk X.K O σ δ1 H H1 v r) I
    ⟨O, δ, _, R0, w, fun r δ1 v H1 w1 s1 R1 k1 => ⟨r, δ1, v, rfl, w1, s1, R1, k1⟩⟩) fun us s1 ⟨vs, H1, I1, r1, q1⟩ => ⟨I1.kIn, ?_⟩) hs hpl
  obtain ⟨r, δ1, v, rfl, ⟨er, w1⟩, st1, R1, k1⟩ := q1
  subst er
  have ev := dp_adL k1
  subst ev
  obtain ⟨u, rfl, ru⟩ := vals1 r1
  cases ru
  have pn := I1.pin (a, oe) (List.mem_append.mpr (.inl d2))
  obtain ⟨p1, p2, p3, p4, p5⟩ := pn
  have nofr : a ∉ frs X.stack := fun z => (List.mem_cons.mp (I1.stkSub _ z)).elim p3 p4
  have bt := hb s1 [.ref a] I1.kIn rfl
  rw [List.append_nil] at bt
  refine wpAny_call (codeAny_mono (go X.A X.stack s1 H1 ⟨[.ref a], []⟩ (fun v2 H2 => v2 = .str (wd n) ∧ Same (hid H1 O) (hid H2 O) ∧ ∀ b, O b → H2 b = H1 b) (a, oe) n D O room ⟨p1, p2, nofr, p5⟩ d1 d4 d5 hn I1.env0 bt R1.occ fun H2 s2 f2 => ⟨rfl, s2, f2⟩) fun res s' hq => ?_)
  cases res with
  | error er => exact False.elim hq
  | ok fl =>
    cases fl <;> first | exact False.elim hq | skip
    obtain ⟨v2, H2, J, rv, ⟨e2, s2, f2⟩⟩ := I1.after hq
    subst e2
    refine ⟨_, H2, J, rv, g (.d (.str (wd n))) δ1 _ H2 w1 (st1.trans ⟨s2, fun b z _ => f2 b z, fun _ => Iff.rfl, fun _ _ => Iff.rfl, dct_refl⟩) (R1.mv s2 f2) (.str _)⟩
end Dw
namespace Dw
open PySem PySem.Spec PyProof.Rows L2
open LamX (LamS lamCx lamEnv CodeO lam_start2)
section
variable {X : Cx} {pins : List (Addr × Obj)} {σ : L2.St} {H : Hp} {s : Shared}
abbrev cxS (X : Cx) (Ng : List Str) (q : Str) (sg : Scope) (g : Addr) (cdg : Value) (s : Shared) (H : Hp) : Cx := cxOf CX0 X.prog X.w X.K X.mg X.base Ng q sg g cdg X.A X.stack s H E0
theorem pe_actG {Ng : List Str} {q : Str} {sg : Scope} {g f c : Addr} {cdg pm ctv : Value} {params : Arguments} {body : Expr} {scope : Scope} {k : Nat} {y : Str} {pn : List (Addr × Obj)} {xe : Value → Shared → Prop} {W : WX} {t : XK → TE} {p1 p2 : Pos}
    (I : Inv X pins σ H s) (g0 : X.A.guards = some []) (L : LamS X.env.scope scope) (hf : s.heap.get? f = some (PySem.W.kla_obj "<lambda>" (X.env.qual ++ "<lambda>") params body scope (cloFrom X.env.cells scope.names []) pm c ctv)) (nf : H f = none) (nofr : f ∉ frs X.stack)
    (hbind : bindArgs (PySem.W.kla_fn "<lambda>" (X.env.qual ++ "<lambda>") params body scope (cloFrom X.env.cells scope.names []) pm (.ref c) ctv) ⟨[], []⟩ = pure [])
    (tk : Takes ((cxS X Ng q sg g cdg s H).tr pn xe) W) (room : Room (k + 1) (X.A.deeper (envOfC q sg s.heap.objs.size g cdg)))
    (hbody : ∀ (A : Around) (outer : List Env) (s : Shared) (H : Hp) (E : XK), A.guards = some [] → Room k (A.deeper (lamEnv X scope s.heap.objs.size f c)) → PE (lamCx X A outer s H E scope f c) body (t E))
    (hN : Ng[0]? = some y) (hv : Vis sg y) (hd : (y == ("__debug__" : Str)) = false) (hcd : (y == ("__classdict__" : Str)) = false) :
    PE ((cxS X Ng q sg g cdg s H).tr pn xe) (.Call (.Name y p1) [] [] p2) (fun τ HZ Q => τ[0]? = some (some (.ref f)) ∧ HZ c = some (CodeO c (X.env.qual ++ "<lambda>")) ∧ t (fun cls d H' => W cls d τ H') σ HZ Q) := by
  refine ⟨fun pinsZ sZ τ HZ Q IZ ⟨e0, ec, ht⟩ => ?_⟩
  refine wpAny_Call_Name_kw (thn ((pe_var (pos := p1) hN hv hd hcd).run pinsZ sZ τ HZ (fun v H1 => v = .ref f ∧ H1 = HZ) IZ ⟨.ref f, e0, rfl, rfl⟩) fun u s1 hu => ?_)
  obtain ⟨v, H1, I1, ru, ev, eH⟩ := hu
  subst ev
  subst eH
  obtain rfl : u = Value.ref f := ru
  have un : Un (frs X.stack) [] H H1 s.heap s1.heap := I1.base
  have of := un.keep f _ hf nf nofr (fun z => nomatch z)
  refine PySem.W.callWith_F0 ⟨_, _, _, _, of⟩ ?_
  obtain ⟨⟨oc, cvs, tkc, hoc, hdc, hvc⟩, _⟩ := I1.hok c _ ec
  have run : codeAny (model X.prog X.w) (X.A.deeper (envOfC q sg s.heap.objs.size g cdg)) (.call (.ref f) ⟨[], []⟩) (CR (L2.CX X.prog X.w) (envOfC q sg s.heap.objs.size g cdg :: X.stack) X.prog X.w H1 s1 Q (fun cls d H' => W cls d τ H')) s1 := by
    refine PySem.W.kla_callFunE room.depth of rfl L.co L.gen rfl ⟨c, oc, cvs, tkc, rfl, hoc, hdc, hvc⟩ ?_
    rw [hbind]
    refine wpAny_pure (wpAny_newFunctionEnv (fun z hz => (L.own z hz).2) (fun z hz => nomatch hz) (fun h1 ns sb => ⟨I1.nolimit.fresh _ sb, ?_⟩) L.kind)
    have kp : ∀ b o, s1.heap.get? b = some o → h1.get? b = some o := fun b o e => sb.extBut b o (Nat.ne_of_lt (Heap.lt_size e)) (Heap.get?_push_of_some _ e)
    have J := lam_start2 (f := f) (c' := c) (tk := s1.toks + ([] : List (Str × Value)).length) (E := fun cls d H' => W cls d τ H') I L I1.env0 room.hd un ns kp
    refine PySem.W.kla_codeExpr (wpAny_mono ((hbody (X.A.deeper (envOfC q sg s.heap.objs.size g cdg)) _ s1 H1 _ g0 (room.deeper _)).run [] _ _ H1 Q J ht) (fun v s2 hv2 => ?_) fun _ _ z => z)
    obtain ⟨v2, H2, J2, r2, q2⟩ := hv2
    exact ⟨v2, H2, J2.os, J2.bare, J2.base, J2.hok, r2, q2⟩
  refine wpAny_call (codeAny_mono run fun r s2 hr => ?_)
  cases r with
  | error e => exact passAt tk τ pinsZ H1 s1 e s2 I1 hr
  | ok fl =>
    cases fl with
    | ret u => exact I1.after hr
    | next => exact nomatch hr
    | brk => exact nomatch hr
    | cont => exact nomatch hr
end
end Dw
namespace Dw
open PySem PySem.Spec PyProof.Rows L2
open LamX (Tabs TabS CodeO)
def inT (T : List (Addr × Str)) (a : Addr) : Prop := ∃ q, (a, q) ∈ T
noncomputable def msk (T : List (Addr × Str)) (H : Hp) : Hp := hid H (inT T)
def orT (O : Addr → Prop) (T : List (Addr × Str)) : Addr → Prop := fun a => O a ∨ inT T a
section
variable {K : PySem.W.Frag} {T : List (Addr × Str)} {O O1 : Addr → Prop} {δ δ1 : Dl} {σ σ1 : L2.St} {H H1 : Hp} {v : V} {r : Rv}
theorem hid_msk : hid (msk T H) O = hid H (orT O T) := by
  funext a
  by_cases h : O a
  · rw [hid_yes h, hid_yes (.inl h)]
  · by_cases t : inT T a
    · rw [hid_no h, hid_yes (.inr t)]
      exact hid_yes t
    · rw [hid_no h, hid_no (fun z => z.elim h t)]
      exact hid_no t
theorem msk_some {a : Addr} {o : HO} (h : msk T H a = some o) : ¬ inT T a ∧ H a = some o := hid_some h
theorem msk_no {a : Addr} (h : ¬ inT T a) : msk T H a = H a := hid_no h
theorem msk_none {a : Addr} (h : H a = none) : msk T H a = none := by
  by_cases t : inT T a
  · exact hid_yes t
  · rw [msk_no t]; exact h
theorem tab_at (t : Tabs T H) {a : Addr} (h : inT T a) : ∃ ps, H a = some (.tbl ps) := by
  obtain ⟨q, hq⟩ := h
  obtain ⟨ps, e, _⟩ := t _ hq
  exact ⟨ps, e⟩
theorem not_tab (t : Tabs T H) {a : Addr} {o : HO} (e : H a = some o) (n : ∀ ps, o ≠ .tbl ps) : ¬ inT T a := fun h => by
  obtain ⟨ps, e2⟩ := tab_at t h
  rw [e] at e2
  exact n ps (Option.some.inj e2)
theorem not_ads (t : Tabs T H) {O1 : Addr → Prop} {ob : Ob} (q : ObAt K O1 H ob) {a : Addr} (m : a ∈ ob.ads) (h : inT T a) : False := by
  rcases (q.o m).2 with ⟨C, us, e⟩ | ⟨vs, e⟩ <;> exact not_tab t e (fun ps z => by cases z) h
theorem not_own (t : Tabs T H) (R : Rep K (orT O T) δ σ H) {a : Addr} (h : inT T a) : ¬ Own δ σ a := fun z => by
  rcases z with ⟨i, xs, e1, e2⟩ | ⟨i, ob, e1, m⟩
  · obtain ⟨b, vs, f1, _, f2, _⟩ := R.lst i xs e1
    rw [e2] at f1
    cases f1
    exact not_tab t f2 (fun ps z => by cases z) h
  · exact not_ads t (R.ex.s i ob e1).2 m h
theorem fs_un : ∀ {us : List (Str × V)} {fs : List (Str × Fv)}, FsOk K O (msk T H) us fs → FsOk K (orT O T) H us fs
  | [], [], _ => trivial
  | u :: us, (n, .d x) :: fs, ⟨h1, h2, h3⟩ => ⟨h1, by have h2 : Dp K (hid (msk T H) O) u.2 x := h2; rw [hid_msk] at h2; exact h2, fs_un h3⟩
  | u :: us, (n, .l p xs) :: fs, ⟨h1, ⟨e, op, vs, hp, d⟩, h3⟩ => ⟨h1, ⟨e, .inl op, vs, (msk_some hp).2, by rw [hid_msk] at d; exact d⟩, fs_un h3⟩
  | [], _ :: _, h => h.elim
  | _ :: _, [], h => h.elim
theorem fs_msk (t : Tabs T H) : ∀ {us : List (Str × V)} {fs : List (Str × Fv)}, FsOk K (orT O T) H us fs → FsOk K O (msk T H) us fs
  | [], [], _ => trivial
  | u :: us, (n, .d x) :: fs, ⟨h1, h2, h3⟩ => ⟨h1, by show Dp K (hid (msk T H) O) u.2 x; rw [hid_msk]; exact h2, fs_msk t h3⟩
  | u :: us, (n, .l p xs) :: fs, ⟨h1, ⟨e, op, vs, hp, d⟩, h3⟩ => by
    have nt := not_tab t hp (fun ps z => by cases z)
    exact ⟨h1, ⟨e, op.resolve_right nt, vs, by rw [msk_no nt]; exact hp, by rw [hid_msk]; exact d⟩, fs_msk t h3⟩
  | [], _ :: _, h => h.elim
  | _ :: _, [], h => h.elim
theorem ob_un {ob : Ob} (q : ObAt K O (msk T H) ob) : ObAt K (orT O T) H ob := by
  obtain ⟨C, us, e1, e2, e3⟩ := q.at_
  exact ⟨⟨C, us, e1, (msk_some e2).2, fs_un e3⟩, .inl q.oa, q.nd⟩
theorem ob_msk (t : Tabs T H) {ob : Ob} (q : ObAt K (orT O T) H ob) : ObAt K O (msk T H) ob := by
  obtain ⟨C, us, e1, e2, e3⟩ := q.at_
  have nt := not_tab t e2 (fun ps z => by cases z)
  exact ⟨⟨C, us, e1, by rw [msk_no nt]; exact e2, fs_msk t e3⟩, q.oa.resolve_right nt, q.nd⟩
theorem not_ownM (t : Tabs T H) (R : Rep K (orT O T) δ σ H) {a : Addr} (h : inT T a) : ¬ OwnM δ σ a := fun ⟨i, kvs, e1, e2⟩ => by
  obtain ⟨b, us, f1, _, f2, _⟩ := R.ex.m i kvs e1
  rw [e2] at f1
  cases f1
  exact not_tab t f2 (fun ps z => by cases z) h
theorem rep_un (t : Tabs T H) (R : Rep K O δ σ (msk T H)) : Rep K (orT O T) δ σ H := by
  refine ⟨R.len, fun i x e => ?_, fun i xs e => ?_, R.inj, fun a z => ?_, ⟨fun i kvs e => ?_, R.ex.i, fun i ks e => ?_, fun i ob e => ⟨(R.ex.s i ob e).1, ob_un (R.ex.s i ob e).2⟩, R.ex.ss, R.ex.sj⟩⟩
  · have := R.dat i x e
    rwa [hid_msk] at this
  · obtain ⟨a, vs, e1, z, e2, d⟩ := R.lst i xs e
    rw [hid_msk] at d
    exact ⟨a, vs, e1, .inl z, (msk_some e2).2, d⟩
  · rcases z with z | z
    · obtain ⟨o, e⟩ := R.occ a z
      exact ⟨o, (msk_some e).2⟩
    · obtain ⟨ps, e⟩ := tab_at t z
      exact ⟨_, e⟩
  · obtain ⟨a, us, e1, z, e2, d⟩ := R.ex.m i kvs e
    rw [hid_msk] at d
    exact ⟨a, us, e1, .inl z, (msk_some e2).2, d⟩
  · have := R.ex.k i ks e
    rwa [hid_msk] at this
theorem rep_off (R : Rep K O δ σ (msk T H)) {a : Addr} (h : O a) : ¬ inT T a := by
  obtain ⟨o, e⟩ := R.occ a h
  exact (msk_some e).1
theorem rep_mk (t : Tabs T H) (no : ∀ a, O a → ¬ inT T a) (R : Rep K (orT O T) δ σ H) : Rep K O δ σ (msk T H) := by
  refine ⟨R.len, fun i x e => ?_, fun i xs e => ?_, R.inj, fun a z => ?_, ⟨fun i kvs e => ?_, R.ex.i, fun i ks e => ?_, fun i ob e => ⟨(R.ex.s i ob e).1, ob_msk t (R.ex.s i ob e).2⟩, R.ex.ss, R.ex.sj⟩⟩
  · have := R.dat i x e
    rwa [hid_msk]
  · obtain ⟨a, vs, e1, z, e2, d⟩ := R.lst i xs e
    have nt := not_tab t e2 (fun ps z => by cases z)
    rw [hid_msk]
    exact ⟨a, vs, e1, z.resolve_right nt, by rw [msk_no nt]; exact e2, d⟩
  · obtain ⟨o, e⟩ := R.occ a (.inl z)
    exact ⟨o, by rw [msk_no (no a z)]; exact e⟩
  · obtain ⟨a, us, e1, z, e2, d⟩ := R.ex.m i kvs e
    have nt := not_tab t e2 (fun ps z => by cases z)
    rw [hid_msk]
    exact ⟨a, us, e1, z.resolve_right nt, by rw [msk_no nt]; exact e2, d⟩
  · have := R.ex.k i ks e
    rwa [hid_msk]
theorem tabs_on (t : Tabs T H) (f : ∀ a, orT O T a → ¬ Own δ σ a → ¬ OwnM δ σ a → H1 a = H a) (s : ∀ a o, ¬ orT O T a → H a = some o → H1 a = some o) (R : Rep K (orT O T) δ σ H) : Tabs T H1 := fun p hp => by
  obtain ⟨ps, e, tr, h⟩ := t p hp
  have it : inT T p.1 := ⟨p.2, hp⟩
  refine ⟨ps, (f _ (.inr it) (not_own t R it) (not_ownM t R it)).trans e, tr, fun pos cv hc => ?_⟩
  obtain ⟨c, e1, e2⟩ := h pos cv hc
  refine ⟨c, e1, ?_⟩
  by_cases z : orT O T c
  · refine (f c z (fun z => ?_) fun ⟨i, kvs, g1, g2⟩ => ?_).trans e2
    · rcases z with ⟨i, xs, g1, g2⟩ | ⟨i, ob, g1, m⟩
      · obtain ⟨b, vs, f1, _, f2, _⟩ := R.lst i xs g1
        rw [g2] at f1
        cases f1
        rw [e2] at f2
        unfold CodeO at f2
        cases f2
      · rcases ((R.ex.s i ob g1).2.o m).2 with ⟨C, us, f2⟩ | ⟨vs, f2⟩ <;> (rw [e2] at f2; unfold CodeO at f2; cases f2)
    · obtain ⟨b, us, f1, _, f2, _⟩ := R.ex.m i kvs g1
      rw [g2] at f1
      cases f1
      rw [e2] at f2
      unfold CodeO at f2
      cases f2
  · exact s c _ z e2
theorem orT_swap {p : Addr} : (fun a => orT O T a ∨ a = p) = orT (fun a => O a ∨ a = p) T := by
  funext a
  refine propext ⟨fun h => ?_, fun h => ?_⟩
  · rcases h with (h | h) | h
    · exact .inl (.inl h)
    · exact .inr h
    · exact .inl (.inr h)
  · rcases h with (h | h) | h
    · exact .inl (.inl h)
    · exact .inr h
    · exact .inl (.inr h)
theorem stp_mk (no : ∀ a, O a → ¬ inT T a) (s : Stp (orT O T) δ δ1 σ H H1) : Stp O δ δ1 σ (msk T H) (msk T H1) := by
  refine ⟨?_, fun a z n => ?_, s.own, s.dat, s.dct⟩
  · rw [hid_msk, hid_msk]
    exact s.same
  · rw [msk_no (no a z), msk_no (no a z)]
    exact s.frame a (.inl z) n
theorem rv_mk (t1 : Tabs T H1) (no : ∀ a, O a → ¬ inT T a) (h : RvOk K (orT O T) σ δ1 H H1 v r) : RvOk K O σ δ1 (msk T H) (msk T H1) v r := by
  cases r with
  | b i xs => exact h
  | d x =>
    show Dp K (hid (msk T H1) O) v x
    rw [hid_msk]
    exact h
  | l xs =>
    obtain ⟨p, vs, e1, n, e, ha, hr⟩ := h
    have nt := not_tab t1 e (fun ps z => by cases z)
    rw [orT_swap] at ha hr
    have no1 : ∀ a, (O a ∨ a = p) → ¬ inT T a := fun a z => z.elim (no a) fun q => by rw [q]; exact nt
    refine ⟨p, vs, e1, msk_none n, by rw [msk_no nt]; exact e, ?_, rep_mk t1 no1 hr⟩
    rw [hid_msk]
    exact ha
def liftTb (T : List (Addr × Str)) (K : PySem.W.Frag) (w : WE) : TE := fun σ H Q => Tabs T H ∧ ∃ O δ P, Rep K O δ σ (msk T H) ∧ w δ P ∧ ∀ r δ' v H', P r δ' → Tabs T H' → Stp O δ δ' σ (msk T H) (msk T H') → Rep K O δ' σ (msk T H') → RvOk K O σ δ' (msk T H) (msk T H') v r → Q v H'
def DET (T : List (Addr × Str)) (X : Cx) (e : Expr) (w : WE) : Prop := PE X e (liftTb T X.K w)
theorem deT_of {X : Cx} {e : Expr} {w : WE} (h : DE X e w) : DET T X e w := pe_weak h fun σ H Q ⟨t, O, δ, P, R, wp, f⟩ => by
  have R0 := rep_un t R
  have no := fun a => rep_off (a := a) R
  refine ⟨orT O T, δ, P, R0, wp, fun r δ' v H' p s R1 k => ?_⟩
  have t1 : Tabs T H' := tabs_on (O := O) (δ := δ) (σ := σ) t (fun a z n _ => s.frame a z n) (fun a o n e => (hid_some (s.same a o (by rw [hid_no n]; exact e))).2) R0
  exact f r δ' v H' p t1 (stp_mk no s) (rep_mk t1 no R1) (rv_mk t1 no k)
structure EOkT (T : List (Addr × Str)) (K : PySem.W.Frag) (O : Addr → Prop) (δ : Dl) (σ : L2.St) (H : Hp) (P : DEnds) (D : Ends) : Prop where
  nx : ∀ O' δ' σ' H', P.nx δ' → Tabs T H' → Tr O O' δ δ' σ σ' (msk T H) (msk T H') → Rep K O' δ' σ' (msk T H') → D.nx σ' H'
  rt : ∀ O' r δ' σ' v H', P.rt r δ' → Tabs T H' → Tr O O' δ δ' σ σ' (msk T H) (msk T H') → Rep K O' δ' σ' (msk T H') → RvOk K O' σ' δ' (msk T H) (msk T H') v r → D.rt v H'
  bk : ∀ O' δ' σ' H', P.bk δ' → Tabs T H' → Tr O O' δ δ' σ σ' (msk T H) (msk T H') → Rep K O' δ' σ' (msk T H') → D.bk σ' H'
  ct : ∀ O' δ' σ' H', P.ct δ' → Tabs T H' → Tr O O' δ δ' σ σ' (msk T H) (msk T H') → Rep K O' δ' σ' (msk T H') → D.ct σ' H'
theorem EOkT.after {P : DEnds} {D : Ends} (E : EOkT T K O δ σ H P D) (R : Rep K O δ σ (msk T H)) (R1 : Rep K O1 δ1 σ1 (msk T H1)) (a : Tr O O1 δ δ1 σ σ1 (msk T H) (msk T H1)) : EOkT T K O1 δ1 σ1 H1 P D :=
  ⟨fun O' δ' σ' H' p t q R' => E.nx _ _ _ _ p t (a.trans R R1 q) R', fun O' r δ' σ' v H' p t q R' k => E.rt _ _ _ _ _ _ p t (a.trans R R1 q) R' (RvOk.backT R R1 a k), fun O' δ' σ' H' p t q R' => E.bk _ _ _ _ p t (a.trans R R1 q) R', fun O' δ' σ' H' p t q R' => E.ct _ _ _ _ p t (a.trans R R1 q) R'⟩
def liftSTb (T : List (Addr × Str)) (K : PySem.W.Frag) (w : WS) : TS := fun D σ H => Tabs T H ∧ ∃ O δ P, Rep K O δ σ (msk T H) ∧ w P δ ∧ EOkT T K O δ σ H P D
def DST (T : List (Addr × Str)) (X : Cx) (s : Stmt) (w : WS) : Prop := PS X s (liftSTb T X.K w)
def DSsT (T : List (Addr × Str)) (X : Cx) (s : List Stmt) (w : WS) : Prop := PSs X s (liftSTb T X.K w)
theorem tr_mk (t : Tabs T H) (R : Rep K O δ σ (msk T H)) (R1 : Rep K O1 δ1 σ1 H1) (s : Tr (orT O T) O1 δ δ1 σ σ1 H H1) :
    Tabs T H1 ∧ ∃ O', O1 = orT O' T ∧ (∀ a, O' a → ¬ inT T a) ∧ Tr O O' δ δ1 σ σ1 (msk T H) (msk T H1) ∧ Rep K O' δ1 σ1 (msk T H1) := by
  have R0 := rep_un t R
  have no := fun a => rep_off (a := a) R
  have sub : ∀ a, inT T a → O1 a := fun a z => by
    rcases s.sub a (.inr z) with q | ⟨⟨i, xs, _, e1, e2⟩, _⟩
    · exact q
    · exact absurd (.inl ⟨i, xs, e1, e2⟩) (not_own t R0 z)
  have e1 : O1 = orT (fun a => O1 a ∧ ¬ inT T a) T := by
    funext a
    refine propext ⟨fun h => ?_, fun h => h.elim (fun z => z.1) (sub a)⟩
    by_cases z : inT T a
    · exact .inr z
    · exact .inl ⟨h, z⟩
  have t1 : Tabs T H1 := tabs_on (O := O) (δ := δ) (σ := σ) t s.frame (fun a o n e => (hid_some (s.same a o (by rw [hid_no n]; exact e))).2) R0
  have no1 : ∀ a, (O1 a ∧ ¬ inT T a) → ¬ inT T a := fun _ z => z.2
  refine ⟨t1, _, e1, no1, ⟨fun a z => ?_, ?_, fun a z => ?_, fun a z n nm => ?_, s.keep, fun a z => (s.own a z).imp id msk_none, fun a z => (s.ownM a z).imp id msk_none, fun a z => (s.ownS a z).imp id msk_none⟩, rep_mk t1 no1 (by rw [← e1]; exact R1)⟩
  · rcases s.sub a (.inl z) with q | ⟨q, o, e⟩
    · exact .inl ⟨q, no a z⟩
    · exact .inr ⟨q, o, by rw [msk_no (no a z)]; exact e⟩
  · rw [hid_msk, hid_msk, ← e1]
    exact s.same
  · rcases s.new a z.1 with q | q
    · exact .inl (q.resolve_right z.2)
    · exact .inr (msk_none q)
  · rw [msk_no (no a z), msk_no (no a z)]
    exact s.frame a (.inl z) n nm
theorem dsT_of {X : Cx} {st : Stmt} {w : WS} (h : DS X st w) : DST T X st w := ps_weak h fun D σ H ⟨t, O, δ, P, R, wp, E⟩ => by
  refine ⟨orT O T, δ, P, rep_un t R, wp, ⟨fun O1 δ' σ' H' p s R1 => ?_, fun O1 r δ' σ' v H' p s R1 k => ?_, fun O1 δ' σ' H' p s R1 => ?_, fun O1 δ' σ' H' p s R1 => ?_⟩⟩
  · obtain ⟨t1, O', _, _, s', R'⟩ := tr_mk t R R1 s
    exact E.nx _ _ _ _ p t1 s' R'
  · obtain ⟨t1, O', e, no, s', R'⟩ := tr_mk t R R1 s
    rw [e] at k
    exact E.rt _ _ _ _ _ _ p t1 s' R' (rv_mk t1 no k)
  · obtain ⟨t1, O', _, _, s', R'⟩ := tr_mk t R R1 s
    exact E.bk _ _ _ _ p t1 s' R'
  · obtain ⟨t1, O', _, _, s', R'⟩ := tr_mk t R R1 s
    exact E.ct _ _ _ _ p t1 s' R'
section
variable {X : Cx} {st : Stmt} {rest body orelse : List Stmt} {w w' wb : WS} {we : WE} {e : Expr} {pos : Pos}
theorem dsT_nil : DSsT T X [] wNext := pss_weak pss_nil fun D σ H ⟨t, O, δ, P, R, w, E⟩ => E.nx _ _ _ _ w t Tr.refl R
theorem dsT_cons (h : DST T X st w) (h2 : DSsT T X rest w') : DSsT T X (st :: rest) (wThen w w') := by
  refine pss_weak (pss_cons h h2) fun D σ H ⟨t, O, δ, P, R, w, E⟩ => ?_
  exact ⟨t, O, δ, _, R, w, ⟨fun O' δ' σ' H' p t1 q R' => ⟨t1, O', δ', P, R', p, E.after R R' q⟩, E.rt, E.bk, E.ct⟩⟩
theorem dsT_one (h : DST T X st w) : DSsT T X [st] w := pss_one h
end
end
end Dw
namespace Dw
open PySem PySem.Spec PyProof.Rows L2
open LamX (Tabs TabS CodeO)
section
variable {K : PySem.W.Frag} {T : List (Addr × Str)} {O O1 : Addr → Prop} {δ δ1 : Dl} {σ σ1 : L2.St} {H H1 : Hp} {v : V} {r : Rv}
theorem msk_upd (t : Tabs T H) {p : Addr} {o : HO} (h : H p = none) : msk T (upd H p o) = upd (msk T H) p o := by
  funext a
  by_cases z : inT T a
  · obtain ⟨ps, e⟩ := tab_at t z
    have ne : a ≠ p := ne_of_none e h
    rw [upd_ne ne]
    show hid _ (inT T) a = hid _ (inT T) a
    rw [hid_yes z, hid_yes z]
  · rw [msk_no z]
    by_cases q : a = p
    · rw [q, upd_same, upd_same]
    · rw [upd_ne q, upd_ne q, msk_no z]
theorem tabs_upd (t : Tabs T H) {p : Addr} {o : HO} (h : H p = none) : Tabs T (upd H p o) := t.ext fun b u e => by rw [upd_ne (ne_of_none e h)]; exact e
theorem same_msk : Same (msk T H) H := hid_le
def liftTT (T : List (Addr × Str)) (K : PySem.W.Frag) (w : WT) : TT := fun σ H Q => Tabs T H ∧ ∃ O δ P, Rep K O δ σ (msk T H) ∧ w δ P ∧ ∀ r δ' H', P r δ' → Tabs T H' → Stp O δ δ' σ (msk T H) (msk T H') → Rep K O δ' σ (msk T H') → Q r H'
def DTT (T : List (Addr × Str)) (X : Cx) (e : Expr) (w : WT) : Prop := PT X e (liftTT T X.K w)
def liftTA (T : List (Addr × Str)) (K : PySem.W.Frag) (w : WA) : TA := fun σ H Q => Tabs T H ∧ ∃ O δ P, Rep K O δ σ (msk T H) ∧ w δ P ∧ ∀ rs δ' vs H', P rs δ' → Tabs T H' → Stp O δ δ' σ (msk T H) (msk T H') → Rep K O δ' σ (msk T H') → RvsOk K O σ δ' (msk T H) (msk T H') vs rs → Q vs H'
def DAT (T : List (Addr × Str)) (X : Cx) (es : List Expr) (w : WA) : Prop := PA X es (liftTA T X.K w)
def liftTI (T : List (Addr × Str)) (K : PySem.W.Frag) (w : WI) : TI := fun σ H R => Tabs T H ∧ ∃ O δ P, Rep K O δ σ (msk T H) ∧ w δ P ∧ ∀ ds δ' H' J, P ds δ' → Tabs T H' → Stp O δ δ' σ (msk T H) (msk T H') → Rep K O δ' σ (msk T H') → WalkD K (hid (msk T H') O) J ds → R J H'
def DIT (T : List (Addr × Str)) (X : Cx) (tg e : Expr) (w : WI) : Prop := PI X tg e (liftTI T X.K w)
theorem stp_tabs (t : Tabs T H) (R : Rep K O δ σ (msk T H)) (s : Stp (orT O T) δ δ1 σ H H1) : Tabs T H1 :=
  tabs_on (O := O) (δ := δ) (σ := σ) t (fun a z n _ => s.frame a z n) (fun a o n e => (hid_some (s.same a o (by rw [hid_no n]; exact e))).2) (rep_un t R)
section
variable {X : Cx} {tg iter a e : Expr} {es : List Expr} {st : Stmt} {body orelse rest : List Stmt} {w w' wb : WS} {we : WE} {wt : WT} {wi : WI} {ua : WA} {b : WB} {js : List Nat} {pos pos' : Pos} {x : Str}
theorem diT_of (h : DI X tg e wi) : DIT T X tg e wi := pi_weak h fun σ H Q ⟨t, O, δ, P, R, wp, f⟩ => by
  refine ⟨orT O T, δ, P, rep_un t R, wp, fun ds δ' H' J p s R1 wk => ?_⟩
  have t1 := stp_tabs t R s
  have no := fun a => rep_off (a := a) R
  rw [← hid_msk] at wk
  exact f ds δ' H' J p t1 (stp_mk no s) (rep_mk t1 no R1) wk
theorem dtT_not (h : DTT T X a wt) : DTT T X (.UnaryOp .Not a pos) (wNotT wt) := by
  refine pt_weak (pt_not h) fun σ H Q q => ?_
  obtain ⟨t, O, δ, P, R0, w, f⟩ := q
  exact ⟨t, O, δ, _, R0, w, fun k δ1 H1 w1 t1 s1 R1 => f _ _ _ w1 t1 s1 R1⟩
theorem dtT_truth (h : DET T X e we) (he : ∀ whole, isTrue e X.env whole = (do let v ← whole; standAt e.pos; holding [v] (truthy v)) := by intro _; rfl) : DTT T X e (wTru we) := by
  refine pt_weak (pt_truth h he) fun σ H Q q => ?_
  obtain ⟨t, O, δ, P, R0, w, f⟩ := q
  refine ⟨t, O, δ, _, R0, w, fun r δ1 v H1 w1 t1 s1 R1 k1 => ?_⟩
  have dq := held0 R0 k1 R1
  split at w1
  · rename_i k e
    refine ⟨k, ?_, f _ _ _ w1 t1 s1 R1⟩
    cases q : r.as with
    | none => rw [q] at dq e; cases e; rw [dq.non]; exact rfl
    | bool i => rw [q] at dq e; cases e; rw [dq.bl]; exact rfl
    | int i => rw [q] at dq e; cases e; rw [dq.int]; exact rfl
    | str i => rw [q] at e; cases e
    | dict i => rw [q] at e; cases e
    | list ds =>
      rw [q] at dq e; cases e
      obtain ⟨p, xs, rfl, h1, h2⟩ := dq.lst hid_le
      exact .inl ⟨xs, sl_mono same_msk h1, by rw [da_empty h2]⟩
    | tuple ds =>
      rw [q] at dq e; cases e
      obtain ⟨p, xs, rfl, h1, h2⟩ := dq.tup hid_le
      exact .inr (.inl ⟨xs, st_mono same_msk h1, by rw [da_empty h2]⟩)
  · exact w1.elim
theorem daT_nil : DAT T X [] wNil := pa_weak pa_nil fun σ H Q ⟨t, O, δ, P, R0, w, f⟩ => f _ _ _ _ w t Stp.refl R0 trivial
theorem daT_cons (h : DET T X e we) (hr : DAT T X es ua) (hs : starEach (e :: es) X.env = (false, eval e X.env) :: starEach es X.env := by rfl) : DAT T X (e :: es) (wCons we ua) := by
  refine pa_weak (pa_cons h hr hs) fun σ H Q ⟨t, O, δ, P, R0, w, f⟩ => ?_
  refine ⟨t, O, δ, _, R0, w, fun r1 δ1 v1 H1 w1 t1 s1 R1 k1 => ?_⟩
  refine ⟨t1, O, δ1, _, R1, w1, fun rs δ2 vs H2 w2 t2 s2 R2 k2 => ?_⟩
  exact f _ _ _ _ w2 t2 (s1.trans s2) R2 ⟨⟨δ1, msk T H1, k1, s2.same⟩, RvsOk.back R0 R1 s1 k2⟩
theorem dsT_if (hc : DTT T X e wt) (h : DSsT T X body w) (h2 : DSsT T X orelse w') : DST T X (.If e body orelse pos) (wIfS wt w w') := by
  refine ps_weak (ps_if hc h h2) fun D σ H ⟨t, O, δ, P, R, w, E⟩ => ?_
  refine ⟨t, O, δ, _, R, w, fun k δ1 H1 w1 t1 s1 R1 => ?_⟩
  cases k with
  | true => exact ⟨t1, O, δ1, P, R1, w1, E.after R R1 s1.tr⟩
  | false => exact ⟨t1, O, δ1, P, R1, w1, E.after R R1 s1.tr⟩
theorem dsT_for (hp : PassesOwn (model X.prog X.w) X.A X.env X.xe) (hc : X.calm = true) (hi : DIT T X tg iter wi) (hg : DG X tg js b) (hb : DSsT T X body wb) (h0 : 0 ∉ js := by decide)
    (hs : ∀ x, foldedSetIterable iter X.env x = pure x := by intro _; rfl) : DST T X (.For tg iter body [] pos) (wFor wi b wb) := by
  refine ps_weak (ps_for hp hc hi hg hb hs) fun D σ H ⟨t, O, δ, P, R, w, E⟩ => ?_
  refine ⟨t, O, δ, _, R, w, fun ds δ1 H1 J w1 t1 s1 R1 wk => ?_⟩
  obtain ⟨GG, Y, wk, hG, hY⟩ := wk
  have E1 := E.after R R1 s1.tr
  refine for_it wk (fun i σ' H' => Tabs T H' ∧ ∃ O' δ', Rep X.K O' δ' σ' (msk T H') ∧ Tr O O' δ1 δ' σ σ' (msk T H1) (msk T H') ∧ wLoop b wb P (ds.drop i) δ') ⟨t1, O, δ1, R1, Tr.refl, w1⟩ ?_ ?_ ?_
  · rintro i σ' H' _ ⟨_, O', δ', R', tr, _⟩
    exact hG H' ((tr.same.trans hid_le).trans same_msk)
  · rintro i x σ' H' H2 hi2 ⟨t', O', δ', R', tr, w2⟩ y
    have e : ds[i]? = some ds[i] := List.getElem?_eq_getElem hi2
    have yl := hY i H' x H2 _ e ((tr.same.trans hid_le).trans same_msk) y
    have hdrop : ds.drop i = ds[i] :: ds.drop (i + 1) := List.drop_eq_getElem_cons hi2
    rw [hdrop] at w2
    have item : Tabs T H2 ∧ Tr O' O' δ' δ' σ' σ' (msk T H') (msk T H2) ∧ Rep X.K O' δ' σ' (msk T H2) ∧ Dp X.K (hid (msk T H2) O') x ds[i] := by
      rcases yl with ⟨rfl, dx⟩ | ⟨A, x1, x2, d1, d2, rfl, nA, rfl, ed, h1, h2⟩
      · exact ⟨t', Tr.refl, R', Dp.up dx tr.same⟩
      · have mA : msk T H' A = none := msk_none nA
        rw [msk_upd t' nA]
        refine ⟨tabs_upd t' nA, (Stp.laid R' mA).tr, R'.laid mA, ?_⟩
        rw [ed]
        refine .tup (xs := [x1, x2]) ?_ (.cons (Dp.up (Dp.up h1 tr.same) (hid_new mA)) (.cons (Dp.up (Dp.up h2 tr.same) (hid_new mA)) .nil))
        rw [hid_no (R'.fresh mA)]; exact upd_same
    obtain ⟨t2, tr2, R2, dx⟩ := item
    have no2 := fun a => rep_off (a := a) R2
    rw [hid_msk] at dx
    refine ⟨orT O' T, δ', _, _, rep_un t2 R2, dx, w2, fun δ3 σ3 w3 bd R3 => ⟨t2, O', δ3, _, rep_mk t2 no2 R3, w3, ?_⟩⟩
    have R3 := rep_mk t2 no2 R3
    have tr3 : Tr O O' δ1 δ3 σ σ3 (msk T H1) (msk T H2) := (tr.trans R1 R' tr2).trans R1 R2 (bd.tr h0)
    have E3 := E1.after R1 R3 tr3
    exact ⟨fun O4 δ4 σ4 H4 p t4 q R4 => ⟨t4, O4, δ4, R4, tr3.trans R1 R3 q, p⟩, E3.rt, fun O4 δ4 σ4 H4 p t4 q R4 => E3.nx _ _ _ _ p t4 q R4, fun O4 δ4 σ4 H4 p t4 q R4 => ⟨t4, O4, δ4, R4, tr3.trans R1 R3 q, p⟩⟩
  · rintro σ' H' ⟨t', O', δ', R', tr, w2⟩
    rw [List.drop_length] at w2
    exact E1.nx _ _ _ _ w2 t' tr R'
end
end
end Dw
namespace Dw
open PySem PySem.Spec PyProof.Rows L2
open LamX (Tabs TabS CodeO)
def spOfT (T : List (Addr × Str)) (K : PySem.W.Frag) (S : WE) : Sp := fun vs H Q _ => liftTb T K S (vs.map some) H Q
structure FnT (T : List (Addr × Str)) (P : Program) (w : World) (K : PySem.W.Frag) (mg : Str → Option Value) (base : Heap) (k : Nat) (x : Str) (S : WE) : Prop where
  ex : ∃ (a : Addr) (fd : FuncData) (ps : List Str), mg x = some (.ref a) ∧ PySem.W.keepIn K (.ref a) = true ∧ Binds K fd ps [] ∧ FnG P w K mg base CX0 k a fd ps (spOfT T K S)
section
variable {T : List (Addr × Str)} {X : Cx} {e : Expr} {es : List Expr} {ua : WA} {pos p : Pos} {x : Str} {k : Nat} {S : WE}
end
end Dw
namespace Dw
open PySem PySem.Spec PyProof.Rows L2
end Dw
namespace Dw
open PySem PySem.Spec PyProof.Rows L2
open LamX (Tabs TabS CodeO)
theorem Fn.tb {T : List (Addr × Str)} {P : Program} {w : World} {K : PySem.W.Frag} {mg : Str → Option Value} {base : Heap} {k : Nat} {x : Str} {S : WE} (F : Fn P w K mg base k x S) : FnT T P w K mg base k x S := by
  obtain ⟨a, fd, ps, h1, h2, h3, h4⟩ := F.ex
  have go : ∀ ys G Q E, spOfT T K S ys G Q E → spOf K S ys G Q E := fun ys G Q E ⟨t, O, δ, Pd, R, wp, f⟩ => by
    have R0 := rep_un t R
    have no := fun a => rep_off (a := a) R
    refine ⟨orT O T, δ, Pd, R0, wp, fun r δ' v H' p s R1 k => ?_⟩
    have t1 : Tabs T H' := stp_tabs t R s
    exact f r δ' v H' p t1 (stp_mk no s) (rep_mk t1 no R1) (rv_mk t1 no k)
  exact ⟨a, fd, ps, h1, h2, h3, ⟨fun ys G Q E q => h4.len ys G Q E (go _ _ _ _ q), fun A outer s G args us ys Q E g hr e0 hb r q => h4.run A outer s G args us ys Q E g hr e0 hb r (go _ _ _ _ q)⟩⟩
section
variable {T : List (Addr × Str)} {X : Cx} {tg e : Expr} {we : WE} {pos pos' : Pos} {x : Str}
theorem dsT_setD (i : Nat) (hN : X.N.Nodup) (h : DET T X e we) (h0 : i ≠ 0 := by decide) (hi : X.N[i]? = some x := by rfl) (hx : Loc X.env.scope x := by first | exact Or.inl rfl | exact Or.inr rfl) (hs : swapsWith e (some (.Name x pos')) pos.line X.env = pure false := by rfl)
    (hf : X.fn x = true ∨ X.env.scope.names.lookup x = some .local := by first | exact .inl rfl | exact .inr rfl) : DST T X (.Assign [.Name x pos'] e pos) (wSetD i we) :=
  ps_weak (ps_set hN hi hx h hs hf) fun D σ H ⟨t, O, δ, P, R, w, E⟩ => by
    refine ⟨t, O, δ, _, R, w, fun r δ1 v H1 w1 t1 s1 R1 k1 => ?_⟩
    cases r with
    | b j xs => exact w1.elim
    | d x => exact E.nx _ _ _ _ w1 t1 (s1.tr.trans R R1 (bd_set.tr (by simpa using fun z => h0 z.symm))) (rep_set R1 k1)
    | l xs => exact E.nx _ _ _ _ w1 t1 (s1.tr.trans R R1 (bd_set.tr (by simpa using fun z => h0 z.symm))) (rep_set R1 (rv_dp R k1 rfl))
end
end Dw
namespace Dw
open PySem PySem.Spec PyProof.Rows L2
open LamX (Tabs TabS CodeO)
end Dw
namespace Dw
open PySem PySem.Spec PyProof.Rows L2
open LamX (Tabs TabS CodeO TabB)
theorem tabs_grow {T : List (Addr × Str)} {H : Hp} {P c : Addr} {q : Str} {ps : Array Value} {pos : Pos} (t : Tabs T H) (hP : H P = some (.tbl ps)) (only : ∀ p ∈ T, p.1 = P → p.2 = q) (nc : H c = none) (tr : TriplesOk ps.toList) :
    Tabs T (upd (upd H P (.tbl (ps ++ #[rawInt pos.line, rawInt pos.col, .ref c]))) c (CodeO c q)) := by
  have old : ∀ {b : Addr} {n : Str}, H b = some (CodeO b n) → upd (upd H P (.tbl (ps ++ #[rawInt pos.line, rawInt pos.col, .ref c]))) c (CodeO c q) b = some (CodeO b n) := fun {b n} e => by
    have h1 : b ≠ P := fun z => by
      rw [z, hP] at e
      exact LamX.codeO_ne ps (Option.some.inj e).symm
    rw [upd_ne (ne_of_none e nc), upd_ne h1]
    exact e
  intro p hp
  obtain ⟨ps1, e1, t1, a1⟩ := t p hp
  by_cases z : p.1 = P
  · rw [z, hP] at e1
    cases e1
    have e2 : (ps ++ #[rawInt pos.line, rawInt pos.col, .ref c]).toList = ps.toList ++ [rawInt pos.line, rawInt pos.col, .ref c] := by simp
    refine ⟨_, by rw [z, upd_ne (ne_of_none hP nc), upd_same], by rw [e2]; exact PySem.TriplesOk_snoc _ _ _ _ tr, fun pos' cv h => ?_⟩
    rw [e2] at h
    rcases LamX.among_app _ tr h with k | k
    · obtain ⟨c0, f1, f2⟩ := a1 pos' cv k
      exact ⟨c0, f1, old f2⟩
    · exact ⟨c, k, by rw [only p hp z, upd_same]⟩
  · refine ⟨ps1, by rw [upd_ne (ne_of_none e1 nc), upd_ne z]; exact e1, t1, fun pos' cv h => ?_⟩
    obtain ⟨c0, f1, f2⟩ := a1 pos' cv h
    exact ⟨c0, f1, old f2⟩
section
variable {X : Cx} {pins : List (Addr × Obj)} {σ : L2.St} {H : Hp} {s : Shared}
end
end Dw
namespace Dw
open PySem PySem.Spec PyProof.Rows L2
open LamX (Tabs TabS CodeO TabB)
section
variable {K : PySem.W.Frag} {G : Hp}
end
end Dw
namespace Dw
open PySem PySem.Spec PyProof.Rows L2
open LamX (Tabs TabS CodeO TabB)
structure KeyS (scope : Scope) (a : Str) : Prop where
  kind : scope.kind = .function
  co : scope.isCoroutine = false
  gen : scope.isGenerator = false
  cell : ∀ y ∈ scope.names, y.2 ≠ .cell ∧ y.2 ≠ .free
  arg : scope.names.lookup a = some NameKind.local
  len : scope.names.lookup ("len" : Str) = some NameKind.globalImplicit
section
variable {T : List (Addr × Str)} {X : Cx} {e : Expr} {we : WE} {c P : Addr} {k kt : Nat} {params : Arguments} {scope : Scope} {a : Str} {p pos lpos kp p1 p2 p3 p4 p5 : Pos}
end
end Dw
namespace Dw
open PySem PySem.Spec PyProof.Rows L2
open LamX (Tabs TabS CodeO TabB)
theorem fnG_ofC {P : Program} {w : World} {K : PySem.W.Frag} {mg : Str → Option Value} {base : Heap} {x qual : Str} {st : Stmt} {f : Addr} {fd : FuncData} {N ps : List Str} {k : Nat} {sp : Sp} (F : Fun K x qual st f fd) (S : FnScope N ps (defScope st)) (len : ∀ ys G Q E, sp ys G Q E → ys.length = ps.length)
    (hbody : ∀ (cdv : Value) (A : Around) (outer : List Env) (s : Shared) (G : Hp) (ys : List V) (Q : VK) (E : XK), fd.code = cdv → A.guards = some [] → Room k (A.deeper (envOfC qual (defScope st) s.heap.objs.size f cdv)) → sp ys G Q E →
      ∃ t, PSs (cxOf CX0 P w K mg base N qual (defScope st) f cdv A outer s G E).nox (defBody st) t ∧ t { nx := fun _ G' => Q .non G', rt := Q } (start N ys) G) : FnG P w K mg base CX0 (k + 1) f fd ps sp := by
  obtain ⟨oc, od, kV, doc, pm, an, cdv, ct, osl, rfl, lk, hcd⟩ := F.ex
  refine ⟨len, fun A outer s G args us ys Q E g0 room e0 hb r pr => ?_⟩
  have ll := len _ _ _ _ pr
  have kin : K.In s.heap := e0.mod.kin.keeps fun b o e => (e0.bs b o e).1
  have nol : s.heap.NoLimit := e0.mod.nolimit.keeps fun b o e => (e0.bs b o e).1
  have kinds : ∀ y ∈ ps.zip us, (defScope st).names.lookup y.1 = some .local ∨ ((defScope st).names.lookup y.1 = some .cell ∧ ((cellsFrom (s.heap.objs.size + 1) (defScope st).names []).lookup y.1).isSome = true) := by
    rintro ⟨n, v⟩ hy
    have hp := S.par n (List.of_mem_zip hy).1
    exact hp.imp id fun q => ⟨q, PySem.W.cellsFrom_some _ _ _ (.inl q)⟩
  refine codeAny_call_function room.depth (kin _ _ lk) rfl S.co S.gen rfl (PySem.W.codeRec_of kin hcd) (hb _ _ _ _ ?_)
  refine wpAny_newFunctionEnv_cells S.kind kinds fun env ee s1 y => ?_
  subst ee
  refine ⟨nol.keeps y.toInCall.keep, codeAny_func ?_⟩
  obtain ⟨t, ht, hq⟩ := hbody cdv A outer s G ys Q E rfl g0 (room.deeper _) pr
  have I : Inv (cxOf CX0 P w K mg base N qual (defScope st) f cdv A outer s G E) [] (start N ys) G s1 := inv_start S room.hd e0 ll r y
  refine wpAny_mono (ht.nox.run [] s1 (start N ys) G _ I hq) (fun fl s' hs => ?_) fun _ _ z => z
  have done : ∀ {τ : L2.St} {G' : Hp} {v : V} {u : Value}, Inv (cxOf CX0 P w K mg base N qual (defScope st) f cdv A outer s G E) [] τ G' s' → RelV v u → Q v G' → CE outer P w G s Q u s' :=
    fun J rv q => ⟨_, _, J.os, J.bare, J.base, J.hok, rv, q⟩
  cases fl with
  | ret u => obtain ⟨v, τ, G', J, rv, q⟩ := hs; exact done J rv q
  | next => obtain ⟨τ, G', J, q⟩ := hs; exact done (v := V.non) (u := Value.none) J rfl q
  | brk => obtain ⟨τ, G', J, q⟩ := hs; exact q.elim
  | cont => obtain ⟨τ, G', J, q⟩ := hs; exact q.elim
theorem fnDTC {T : List (Addr × Str)} {P : Program} {w : World} {K : PySem.W.Frag} {mg : Str → Option Value} {base : Heap} {x qual : Str} {st : Stmt} {f : Addr} {fd : FuncData} {N ps : List Str} {k : Nat} {S : WE} {wb : WS} (F : Fun K x qual st f fd) (Sc : FnScope N ps (defScope st)) (hN : ps.length ≤ N.length)
    (hS : ∀ δ P, S δ P → ArgOk ps.length δ ∧ wb (endsOf δ P) (δ ++ List.replicate (N.length - ps.length) Sl.un))
    (hbody : ∀ (cdv : Value) (A : Around) (outer : List Env) (s : Shared) (G : Hp) (E : XK), fd.code = cdv → A.guards = some [] → Room k (A.deeper (envOfC qual (defScope st) s.heap.objs.size f cdv)) → DSsT T (cxOf CX0 P w K mg base N qual (defScope st) f cdv A outer s G E).nox (defBody st) wb) :
    FnG P w K mg base CX0 (k + 1) f fd ps (spOfT T K S) := by
  have len : ∀ ys G Q E, spOfT T K S ys G Q E → ys.length = ps.length := fun ys G Q E ⟨t, O, δ, P, R, hs, _⟩ => by
    have := R.len
    rw [List.length_map] at this
    rw [← this]
    exact (hS δ P hs).1.1
  refine fnG_ofC F Sc len fun cdv A outer s G ys Q E ec g0 room pr => ⟨_, hbody cdv A outer s G E ec g0 room, ?_⟩
  have ly := len _ _ _ _ pr
  obtain ⟨t, O, δ, Pd, R, hs, f⟩ := pr
  obtain ⟨ao, hw⟩ := hS δ Pd hs
  obtain ⟨R2, En, _⟩ := start_ok (N := N) (Q := fun v Gm => ∀ G', msk T G' = Gm → Tabs T G' → Q v G') ly R ao fun r δ' v H' p s1 R1 k1 G' e1 t1 => by
    subst e1
    exact f r δ' v G' p t1 s1 R1 k1
  exact ⟨t, O, _, _, R2, hw, ⟨fun O' δ' σ' H' p t' q R' => En.nx _ _ _ _ p q R' H' rfl t', fun O' r δ' σ' v H' p t' q R' k1 => En.rt _ _ _ _ _ _ p q R' k1 H' rfl t', fun O' δ' σ' H' p t' q R' => (En.bk _ _ _ _ p q R').elim, fun O' δ' σ' H' p t' q R' => (En.ct _ _ _ _ p q R').elim⟩⟩
def DefInC (K : PySem.W.Frag) (x : Str) (st : Stmt) (cc : Addr) : Prop := ∃ (f : Addr) (oc : Value) (od : Option Addr) (kV dc pm : Value) (an : Option Addr) (ct : Value) (sl : Array (Option Value)),
  PySem.W.nsIn K mainGlobals x = some (some (.ref f)) ∧ K.lookup f = some ⟨oc, od, .func (PySem.W.fnOf x x (defArgs st) (defBody st) (defScope st) .none kV dc pm an (.ref cc) ct), sl⟩ ∧ PySem.W.codeIn K (.ref cc) x = true ∧ PySem.W.keepIn K (.ref f) = true
theorem def_inC {K : PySem.W.Frag} {x : Str} {st : Stmt} {f : Addr} {oc : Value} {od : Option Addr} {kV dc pm : Value} {an : Option Addr} {ct : Value} {cc : Addr} {sl : Array (Option Value)} (a : PySem.W.nsIn K mainGlobals x = some (some (.ref f)))
    (l : K.lookup f = some ⟨oc, od, .func (PySem.W.fnOf x x (defArgs st) (defBody st) (defScope st) .none kV dc pm an (.ref cc) ct), sl⟩) (c : PySem.W.codeIn K (.ref cc) x = true) (k : PySem.W.keepIn K (.ref f) = true) : DefInC K x st cc := ⟨f, oc, od, kV, dc, pm, an, ct, sl, a, l, c, k⟩
theorem fn_inTC {T : List (Addr × Str)} {P : Program} {w : World} {K : PySem.W.Frag} {mg : Str → Option Value} {base h : Heap} {x : Str} {st : Stmt} {ps : List Str} {S : WE} {k : Nat} {cc : Addr} (X : K.In h) (G : h.Ns mainGlobals mg) (d : DefInC K x st cc)
    (hb : ∀ (kV doc pm : Value) (an : Option Addr) (cdv ct : Value) (us : List Value), us.length = ps.length → bindArgs (PySem.W.fnOf x x (defArgs st) (defBody st) (defScope st) .none kV doc pm an cdv ct) ⟨us, []⟩ = pure (ps.zip us))
    (ok : ∀ {f : Addr} {fd : FuncData}, Fun K x x st f fd → fd.code = .ref cc → FnG P w K mg base CX0 k f fd ps (spOfT T K S)) : FnT T P w K mg base k x S := by
  obtain ⟨f, oc, od, kV, dc, pm, an, ct, sl, a, l, c, kp⟩ := d
  have F := fun_mk (st := st) l c kp
  exact ⟨f, _, ps, PySem.W.mg_of X G a, kp, F.binds hb, ok F rfl⟩
end Dw
namespace Dw
open PySem PySem.Spec PyProof.Rows L2
open LamX (LamS lamCx lamEnv CodeO Tabs TabB)
def SayAt (wx : WEX) (ns : List Str) (wd : Str → Str) (δ : Dl) (PS : Str → Prop) : Prop := wx δ (fun r _ => noB r = true ∧ showOk r.as ∧ PS r.as.shown) (fun n => n ∈ ns ∧ PS (wd n))
def SaidBody (P : Program) (w : World) (K : PySem.W.Frag) (mg : Str → Option Value) (base : Heap) (k : Nat) (x : Str) (st : Stmt) (Ng : List Str) (y : Str) (g : Addr) (cdg : Value) (ns : List Str) (wd : Str → Str) : Prop :=
  ∀ (A : Around) (outer : List Env) (s : Shared) (H : Hp) (f c : Addr) (q : Str) (σm : L2.St) (wx : WEX), A.guards = some [] → Room k (A.deeper (envOfC x (defScope st) s.heap.objs.size g cdg)) →
    (∀ (W : WX) (pn : List (Addr × Obj)) (xe : Value → Shared → Prop) (p1 p2 : Pos), Takes ((cxOf CX0 P w K mg base Ng x (defScope st) g cdg A outer s H E0).tr pn xe) W →
      PE ((cxOf CX0 P w K mg base Ng x (defScope st) g cdg A outer s H E0).tr pn xe) (.Call (.Name y p1) [] [] p2) (fun τ HZ Q => τ[0]? = some (some (.ref f)) ∧ HZ c = some (CodeO c q) ∧ liftX K mg (WofE fun cls d H' => W cls d τ H') wx σm HZ Q)) →
    H c = some (CodeO c q) → ∀ (O : Addr → Prop) (δ : Dl) (PS : Str → Prop) (Q : VK), Rep K O δ σm H → (∀ a, ¬ Own δ σm a ∧ ¬ OwnM δ σm a) → SayAt wx ns wd δ PS → (∀ z H', PS z → Same (hid H O) (hid H' O) → (∀ a, O a → H' a = H a) → Q (.str z) H') →
    ∃ t, PSs (cxOf CX0 P w K mg base Ng x (defScope st) g cdg A outer s H E0).nox (defBody st) t ∧ t { nx := fun _ G => Q .non G, rt := Q } (L2.start Ng [.ref f]) H
structure SaidFn (P : Program) (w : World) (K : PySem.W.Frag) (mg : Str → Option Value) (base : Heap) (k : Nat) (x : Str) (ns : List Str) (wd : Str → Str) : Prop where
  ex : ∃ (g : Addr) (oc : Value) (od : Option Addr) (st : Stmt) (kV doc pm : Value) (an : Option Addr) (cdg ct : Value) (osl : Array (Option Value)) (Ng : List Str) (y : Str),
    mg x = some (.ref g) ∧ PySem.W.keepIn K (.ref g) = true ∧ K.lookup g = some ⟨oc, od, .func (PySem.W.fnOf x x (defArgs st) (defBody st) (defScope st) .none kV doc pm an cdg ct), osl⟩ ∧ PySem.W.codeIn K cdg x = true ∧
    Binds K (PySem.W.fnOf x x (defArgs st) (defBody st) (defScope st) .none kV doc pm an cdg ct) [y] [] ∧ FnScope Ng [y] (defScope st) ∧ Ng[0]? = some y ∧ Vis (defScope st) y ∧ (y == ("__debug__" : Str)) = false ∧ (y == ("__classdict__" : Str)) = false ∧ SaidBody P w K mg base k x st Ng y g cdg ns wd
theorem said_of {P : Program} {w : World} {K : PySem.W.Frag} {mg : Str → Option Value} {base : Heap} {x : Str} {st : Stmt} {Ng : List Str} {y : Str} {g CS : Addr} {cdg : Value} {k i : Nat} {ns : List Str} {wd : Str → Str} {x1 e : Str} {p1 p2 p3 p4 p5 np pos pos' : Pos} {b₀ : Stmt} {suite : List Stmt} {ws : Addr → Str → WS}
    (Sc : FnScope Ng [y] (defScope st)) (bl : mg "repr" = none) (hrg : (defScope st).names.lookup ("repr" : Str) = some .globalImplicit)
    (hbd : defBody st = [.Try [.Return (some (.Call (.Name "repr" p1) [.Call (.Name y p2) [] [] p3] [] p4)) p5] [.ExceptHandler (some (.Name x1 np)) (some e) (b₀ :: suite) pos'] [] [] pos])
    (hi : Ng[i]? = some e) (he : (defScope st).names.lookup e = some .local) (hx : (defScope st).names.lookup x1 = some .globalImplicit) (hxd : (x1 == ("__debug__" : Str)) = false) (hm : mg x1 = some (.ref CS)) (hex : ∀ n ∈ ns, ∀ D, mg n = some (.ref D) → PySem.W.exmOne K (.ref D) (.ref CS) = some true) (hns : ∀ n ∈ ns, ∃ D, mg n = some (.ref D)) (hcl : ∀ n ∈ ns, ∀ D, mg n = some (.ref D) → ExcC K D)
    (h0 : i ≠ 0) (hil : i < Ng.length)
    (hS : ∀ (f a : Addr) (n : Str), n ∈ ns → ws a n { nx := fun _ => False, rt := fun r _ => r = .d (.str (wd n)), bk := fun _ => False, ct := fun _ => False } ((([Sl.d (adD f)] : Dl) ++ List.replicate (Ng.length - 1) Sl.un).set i (Sl.d (adD a))))
    (hsu : ∀ (A : Around) (outer : List Env) (s : Shared) (H : Hp) (a : Addr) (oe : Obj) (n : Str) (pn : List (Addr × Obj)), n ∈ ns → A.guards = some [] → Room k (A.deeper (envOfC x (defScope st) s.heap.objs.size g cdg)) → PinE ((cxOf CX0 P w K mg base Ng x (defScope st) g cdg A outer s H E0).nox.suite a ((a, oe) :: pn)) a n →
      DSs ((cxOf CX0 P w K mg base Ng x (defScope st) g cdg A outer s H E0).nox.suite a ((a, oe) :: pn)) (b₀ :: suite) (ws a n)) :
    SaidBody P w K mg base k x st Ng y g cdg ns wd := by
  intro A outer s H f c q σm wx g0 room act hc O δ PS Q R own say fin
  rw [hbd]
  have try_ := ps_try_as (X := (cxOf CX0 P w K mg base Ng x (defScope st) g cdg A outer s H E0).nox) (x := x1) (n := e) (c := .ref CS) (i := i) (np := np) (pos := pos) (pos' := pos') (b₀ := b₀) (suite := suite) (body := [.Return (some (.Call (.Name "repr" p1) [.Call (.Name y p2) [] [] p3] [] p4)) p5])
    (tb := fun W D τ H1 => τ[0]? = some (some (.ref f)) ∧ H1 c = some (CodeO c q) ∧ liftX K mg (WofE fun cls d H' => W cls d τ H') wx σm H1 fun v H2 => ∃ d, Dp K H2 v d ∧ showOk d ∧ D.rt (.str d.shown) H2)
    (ts := fun a cls d D τ H1 => ∃ n, n ∈ ns ∧ mg n = some cls ∧ d = none ∧ liftS K (ws a n) D τ H1) (Wout := fun _ _ _ _ => False)
    rfl rfl Sc.nd hi he ⟨hx, hxd, .inl hm⟩ LamX.takes0 (fun W pn xe tk _ => ?_) (fun a oe cls d pn hz hf => ?_)
  · refine ⟨_, pss_one try_, ?_⟩
    obtain ⟨e0, hl⟩ : (L2.start Ng [V.ref f])[0]? = some (some (V.ref f)) ∧ (L2.start Ng [V.ref f]).length = Ng.length := by
      refine ⟨rfl, ?_⟩
      unfold L2.start
      rw [List.length_append, List.length_map, List.length_replicate]
      simp only [List.length_cons, List.length_nil]
      omega
    refine ⟨e0, hc, O, δ, _, _, R, say, fun r δ' v H' ⟨nb, sh, ps⟩ s1 R1 k1 => ?_, fun n cls H' ⟨hn, ps⟩ mn xs => ?_⟩
    · have fr : ∀ a, O a → H' a = H a := fun a z => s1.frame a z (own a).1
      exact ⟨r.as, (held0 R k1 R1).dp hid_le, sh, fin _ H' ps s1.same fr⟩
    · obtain ⟨D, eD⟩ := hns n hn
      have ecl : cls = .ref D := by rw [mn] at eD; exact Option.some.inj eD
      subst ecl
      refine ⟨true, hex n hn D mn, fun _ a na => ⟨n, hn, mn, rfl, ?_⟩, fun z => nomatch z⟩
      have fr : ∀ b, O b → H' b = H b := fun b z => xs.frame b z (own b).1 (own b).2
      have occ' : ∀ b, O b → ∃ o, H' b = some o := fun b z => by
        obtain ⟨o, e1⟩ := R.occ b z
        exact ⟨o, by rw [fr b z]; exact e1⟩
      have R0 : Rep K O ([adD f].map Sl.d) ([V.ref f].map some) H' := rep_args (rep_nil occ') (.cons .ad .nil)
      obtain ⟨R2, _⟩ := start_ok (N := Ng) (ps := [y]) (ys := [V.ref f]) (Pd := fun _ _ => False) (Q := fun _ _ => True) rfl R0 (argD [adD f]) fun _ _ _ _ z => z.elim
      have R3 := rep_set (j := i) (v := V.ref a) (x := adD a) R2 .ad
      refine ⟨O, _, _, R3, hS f a n hn, ⟨fun _ _ _ _ z => False.elim z, fun O' r δ' σ' v H2 er tr R4 k4 => ?_, fun _ _ _ _ z => False.elim z, fun _ _ _ _ z => False.elim z⟩⟩
      subst er
      have k4 : Dp K (hid H2 O') v (.str (wd n)) := k4
      cases k4
      have no : ∀ (j : Nat) (z : Sl), ((([Sl.d (adD f)] : Dl) ++ List.replicate (Ng.length - 1) Sl.un).set i (Sl.d (adD a)))[j]? = some z → (∃ u, z = .d u) ∨ z = .un := fun j z hz => by
        have hm := List.mem_of_getElem? hz
        rcases List.mem_or_eq_of_mem_set hm with q1 | q1
        · rcases List.mem_append.mp q1 with q2 | q2
          · exact .inl ⟨_, List.mem_singleton.mp q2⟩
          · exact .inr (List.eq_of_mem_replicate q2)
        · exact .inl ⟨_, q1⟩
      have n1 : ∀ b, ¬ Own ((([Sl.d (adD f)] : Dl) ++ List.replicate (Ng.length - 1) Sl.un).set i (Sl.d (adD a))) ((L2.start Ng [V.ref f]).set i (some (V.ref a))) b := fun b z => by
        rcases z with ⟨j, us, q1, _⟩ | ⟨j, us, q1, _⟩ <;> (rcases no j _ q1 with ⟨u, z⟩ | z <;> cases z)
      have n2 : ∀ b, ¬ OwnM ((([Sl.d (adD f)] : Dl) ++ List.replicate (Ng.length - 1) Sl.un).set i (Sl.d (adD a))) ((L2.start Ng [V.ref f]).set i (some (V.ref a))) b := fun b ⟨j, us, q1, _⟩ => by
        rcases no j _ q1 with ⟨u, z⟩ | z <;> cases z
      have sub : ∀ b, O b → O' b := fun b z => (tr.sub b z).elim id fun ⟨⟨j, us, _, q1, q2⟩, _⟩ => absurd (.inl ⟨j, us, q1, q2⟩) (n1 b)
      exact fin _ H2 ps ((xs.same.trans tr.same).trans (hid_sub sub)) fun b z => (tr.frame b z (n1 b) (n2 b)).trans (fr b z)
  · have hp := act W pn xe p2 p3 tk
    refine pss_one (ps_weak (ps_ret (pos := p5) (pe_callB (call_reprD g0 (by have := room.un; show (A.deeper (envOfC x (defScope st) s.heap.objs.size g cdg)).units + 80 < _; omega)) hrg bl (by decide +kernel) (pa_cons hp pa_nil rfl) (he := rfl) (hpl := rfl))) fun D τ H1 ⟨e0, hc, O, δ, P, PX, R, w, f, ob⟩ => ?_)
    refine ⟨e0, hc, O, δ, P, PX, R, w, fun r δ' v H' p s R k => ?_, ob⟩
    obtain ⟨d, d1, d2, d3⟩ := f r δ' v H' p s R k
    exact ⟨v, d, rfl, d1, d2, d3⟩
  · refine ⟨fun pins s2 τ H1 D I ⟨n, hn, mn, ed, q⟩ => ?_⟩
    subst ed
    obtain ⟨D1, eD⟩ := hns n hn
    have ecl : cls = .ref D1 := by rw [mn] at eD; exact Option.some.inj eD
    subst ecl
    exact (hsu A outer s H a oe n pn hn g0 room ⟨D1, oe, mn, List.mem_cons_self, hcl n hn D1 mn, hz, hf⟩).run pins s2 τ H1 D I q
end Dw
namespace Dw
open PySem PySem.Spec PyProof.Rows L2
open LamX (Tabs TabS CodeO TabB)
end Dw
namespace Dw
open PySem PySem.Spec PyProof.Rows L2
open LamX (LamS lamCx lamEnv CodeO Tabs TabB)
theorem rep_stayN {K : PySem.W.Frag} {O : Addr → Prop} {δ : Dl} {σ : L2.St} {H : Hp} (R : Rep K O δ σ H) : Rep K O (stayD δ) σ H ∧ ∀ a, ¬ Own (stayD δ) σ a ∧ ¬ OwnM (stayD δ) σ a := by
  have at_ : ∀ {i : Nat} {s : Sl}, (stayD δ)[i]? = some s → s = .un ∨ ∃ x, s = .d x ∧ δ[i]? = some (.d x) := fun {i s} e => by
    by_cases h : s = .un
    · exact .inl h
    · exact .inr (stay_at e h)
  refine ⟨⟨by rw [← R.len]; unfold stayD; rw [List.length_map], fun i x e => ?_, fun i xs e => ?_, fun i j xs ys a e => ?_, R.occ, .none fun i s e => ?_⟩, fun a => ⟨fun z => z.elim (fun ⟨i, xs, e, _⟩ => ?_) (fun ⟨i, xs, e, _⟩ => ?_), fun ⟨i, xs, e, _⟩ => ?_⟩⟩
  · rcases at_ e with z | ⟨y, z, e1⟩
    · cases z
    · cases z; exact R.dat i _ e1
  · rcases at_ e with z | ⟨y, z, _⟩ <;> cases z
  · rcases at_ e with z | ⟨y, z, _⟩ <;> cases z
  · rcases at_ e with z | ⟨y, z, _⟩ <;> (subst z; rfl)
  · rcases at_ e with z | ⟨y, z, _⟩ <;> cases z
  · rcases at_ e with z | ⟨y, z, _⟩ <;> cases z
  · rcases at_ e with z | ⟨y, z, _⟩ <;> cases z
section
variable {X : Cx} {pins : List (Addr × Obj)} {σ : L2.St} {H : Hp} {s : Shared}
theorem lam_at2 {T : List (Addr × Str)} {c P : Addr} {params : Arguments} {body : Expr} {scope : Scope} {pos : Pos} {E : Value → Shared → Prop} {Q : Value → Shared → Prop} (I : Inv X pins σ H s) (TB : TabB X.base X.mg c P) (hcode : X.env.code = .ref c)
    (hm : (P, X.env.qual ++ "<lambda>") ∈ T) (only : ∀ p ∈ T, p.1 = P → p.2 = X.env.qual ++ "<lambda>") (t : Tabs T H) (hdef : defaultsOf params X.env = ([], [])) (hfree : ∀ y ∈ scope.names, y.2 = .free → ∃ c, X.env.cells.lookup y.1 = some c)
    (h : ∀ (f c' : Addr) (pm ctv : Value) (H1 : Hp) (s' : Shared), Inv X pins σ H1 s' → (∀ b o, b ≠ P → H b = some o → H1 b = some o) → Tabs T H1 →
      s'.heap.get? f = some (PySem.W.kla_obj "<lambda>" (X.env.qual ++ "<lambda>") params body scope (cloFrom X.env.cells scope.names []) pm c' ctv) → H1 f = none → f ∉ frs X.stack → H1 c' = some (CodeO c' (X.env.qual ++ "<lambda>")) → Q (.ref f) s') :
    wpAny (model X.prog X.w) X.A (eval (.Lambda params body scope pos) X.env) Q E s := by
  obtain ⟨ps, hP, tr, ha⟩ := t _ hm
  have oP := I.hok P _ hP
  have bP := TB.bm.keeps I.bk
  have young : ∀ f, s.heap.objs.size ≤ f → f ∉ frs X.stack := fun f hf z => by
    rcases List.mem_cons.mp (I.stkSub _ z) with e | e
    · have h1 := I.lt
      rw [← e] at h1
      exact absurd (Nat.lt_of_lt_of_le h1 hf) (Nat.lt_irrefl _)
    · exact I.nofs hf e
  refine PySem.W.kla_eval hdef ?_
  cases hc : codeAmong pos ps.toList with
  | some cv =>
    obtain ⟨c', e, hco⟩ := ha pos cv hc
    subst e
    refine PySem.W.kla_makeFunctionHit (mg := X.mg) (c := c) (P := P) (ps := ps) (closure_ok hfree) I.ok.glob (I.mod.glob.keeps I.bk) hcode (TB.code.keeps I.bk) oP tr hc bP fun ctv h' tk kp hsz => ?_
    exact h _ c' _ ctv H _ (I.kept fun b o e => Heap.get?_push_of_some _ (kp b o e)) (fun _ _ _ e => e) t (Heap.get?_push_size _ rfl) (I.hok.fresh hsz) (young _ hsz) hco
  | none =>
    refine PySem.W.kla_makeFunction (mg := X.mg) (c := c) (P := P) (ps := ps) (closure_ok hfree) I.ok.glob (I.mod.glob.keeps I.bk) hcode (TB.code.keeps I.bk) oP tr hc TB.gP bP fun c' ctv h' tk kp hge hlt rec tab => ?_
    obtain ⟨c2, oc, vs, tk2, e2, hoc, hd, hv⟩ := rec
    cases e2
    have nc := I.hok.fresh hge
    have hsz : s.heap.objs.size ≤ h'.objs.size := Nat.le_trans hge (Nat.le_of_lt hlt)
    refine h _ c' _ ctv _ _ (LamX.inv_table (t' := tk) (more := #[rawInt pos.line, rawInt pos.col, .ref c']) I hP (fun b o hb e => Heap.get?_push_of_some _ (kp b o hb e)) (Heap.get?_push_of_some _ tab) hge ⟨oc, vs, tk2, Heap.get?_push_of_some _ hoc, hd, hv⟩)
      (fun b o hb e => by rw [upd_ne (ne_of_none e nc), upd_ne hb]; exact e) (tabs_grow t hP only nc tr) (Heap.get?_push_size _ rfl) ?_ (young _ hsz) upd_same
    have n1 : h'.objs.size ≠ c' := Nat.ne_of_gt hlt
    have n2 : h'.objs.size ≠ P := Nat.ne_of_gt (Nat.lt_of_lt_of_le (Heap.lt_size oP) hsz)
    rw [upd_ne n1, upd_ne n2]
    exact I.hok.fresh hsz
end
def wSaid (ns : List Str) (wd : Str → Str) (wx : WEX) : WE := fun δ P => SayAt wx ns wd (stayD δ) fun z => P (.d (.str z)) δ
theorem deT_said {T : List (Addr × Str)} {X : Cx} {k kk : Nat} {x : Str} {ns : List Str} {wd : Str → Str} {c P : Addr} {params : Arguments} {body : Expr} {scope : Scope} {wx : WEX} {p lpos pos : Pos} (F : SaidFn X.prog X.w X.K X.mg X.base k x ns wd) (hk : k ≤ kk + 1)
    (TB : TabB X.base X.mg c P) (hcode : X.env.code = .ref c) (hm : (P, X.env.qual ++ "<lambda>") ∈ T) (only : ∀ p ∈ T, p.1 = P → p.2 = X.env.qual ++ "<lambda>") (g0 : X.A.guards = some []) (room : Room (kk + 2) X.A) (hg : Gl X x) (L : LamS X.env.scope scope) (hdef : defaultsOf params X.env = ([], []))
    (hbind : ∀ (q : Str) (cl : List (Str × Addr)) (pm cv ctv : Value), bindArgs (PySem.W.kla_fn "<lambda>" q params body scope cl pm cv ctv) ⟨[], []⟩ = pure [])
    (hbody : ∀ (A : Around) (outer : List Env) (s : Shared) (H : Hp) (E : XK) (f c : Addr), A.guards = some [] → Room kk (A.deeper (lamEnv X scope s.heap.objs.size f c)) → Takes (lamCx X A outer s H E scope f c) (WofE E) → DEX (lamCx X A outer s H E scope f c) (WofE E) body wx)
    (hdb : (x == ("__debug__" : Str)) = false := by decide) : DET T X (.Call (.Name x p) [.Lambda params body scope lpos] [] pos) (wSaid ns wd wx) := by
  obtain ⟨g, oc, od, st, kV, doc, pm, an, cdg, ct, osl, Ng, y, e1, e2, lk, e4, e5, Sc, e7, e8, e9, e10, bd⟩ := F.ex
  refine ⟨fun pins s σ H Q I ⟨t, O, δ, Pd, R, w, fin⟩ => ?_⟩
  refine wpAny_Call_Name_kw (ld_glob I hg e1 ?_ hdb)
  refine PySem.W.callWith_K (h₀ := X.base) I.ok.mod.kin e2 ?_ (by rfl) (by rfl)
  show wpAny _ _ (spliced ((false, eval (.Lambda params body scope lpos) X.env) :: backTo pos (starEach [] X.env))) _ _ s
  refine Calls.spliced_cons (lam_at2 I TB hcode hm only t hdef (L.has I.ok) fun f c' pm' ctv H1 s1 I1 keep t1 hf nf nofr hco => ?_)
  refine Calls.spliced_nil ⟨I1.kIn, ?_⟩
  have same : Same (msk T H) (msk T H1) := fun b o e => by
    obtain ⟨nt, e1⟩ := msk_some e
    rw [msk_no nt]
    exact keep b o (fun z => nt ⟨_, z ▸ hm⟩) e1
  have fr : ∀ a, O a → msk T H1 a = msk T H a := fun a z => by
    obtain ⟨o, e⟩ := R.occ a z
    rw [same _ _ e, e]
  have same0 : Same (hid (msk T H) O) (hid (msk T H1) O) := fun b o e => by
    obtain ⟨n, e⟩ := hid_some e
    rw [hid_no n]
    exact same _ _ e
  have R1 := R.mv same0 fr
  have no := fun a => rep_off (a := a) R1
  have RU := rep_un t1 R1
  obtain ⟨RS, ow⟩ := rep_stayN RU
  have rc : codeAny (model X.prog X.w) X.A (.call (.ref g) ⟨[.ref f], []⟩) (CR CX0 X.stack X.prog X.w H1 s1 Q E0) s1 := by
    refine LamX.run_ofS (N := Ng) (ps := [y]) (us := [.ref f]) (vs := [.ref f]) lk e4 Sc room I1.env0 (by have := e5 s1 [.ref f] I1.kIn rfl; exact this) (.cons rfl .nil) rfl fun hr => ?_
    have fin2 : ∀ z H', Pd (.d (.str z)) δ → Same (hid H1 (orT O T)) (hid H' (orT O T)) → (∀ a, orT O T a → H' a = H1 a) → Q (.str z) H' := fun z H' pz sm fr2 => by
      have all : ∀ b o, H1 b = some o → H' b = some o := fun b o e => by
        by_cases z : orT O T b
        · rw [fr2 b z]; exact e
        · exact (hid_some (sm b o (by rw [hid_no z]; exact e))).2
      have t2 : Tabs T H' := t1.ext all
      have fr3 : ∀ a, O a → msk T H' a = msk T H1 a := fun a z => by rw [msk_no (no a z), msk_no (no a z)]; exact fr2 a (.inl z)
      have same2 : Same (hid (msk T H1) O) (hid (msk T H') O) := by rw [hid_msk, hid_msk]; exact sm
      exact fin (.d (.str z)) δ _ H' pz t2 ⟨same0.trans same2, fun a z _ => (fr3 a z).trans (fr a z), fun _ => Iff.rfl, fun _ _ => Iff.rfl, dct_refl⟩ (R1.mv same2 fr3) (.str _)
    obtain ⟨tt, h1, h2⟩ := bd X.A X.stack s1 H1 f c' (X.env.qual ++ "<lambda>") σ wx g0 (hr.mono hk) (fun W pn xe p1 p2 tk => pe_actG (t := fun E => liftX X.K X.mg (WofE E) wx) I1 g0 L hf nf nofr (hbind _ _ _ _ _) tk hr (fun A outer s H E ga ra => hbody A outer s H E f c' ga ra (takes_of rfl rfl rfl rfl)) e7 e8 e9 e10) hco (orT O T) (stayD δ) _ Q RS ow w fin2
    exact ⟨tt, h1.nox, h2⟩
  refine wpAny_call (codeAny_mono rc fun r s2 hr => ?_)
  cases r with
  | error e => exact nomatch hr
  | ok fl =>
    cases fl with
    | ret u => exact I1.after hr
    | next => exact nomatch hr
    | brk => exact nomatch hr
    | cont => exact nomatch hr
end Dw
namespace Dw
open PySem PySem.Spec PyProof.Rows L2
open LamX (Tabs)
mutual
def odd : PyData → Bool
  | .dict kvs => match kvs with
    | [(.none, .int 0)] => true
    | [(.none, .int 6), (.none, .int m)] => decide (1 ≤ m ∧ m ≤ 5)
    | _ => false
  | .list xs => oddAll xs
  | .tuple xs => decide (xs.length ≤ 1000) && oddAll xs
  | .none => true
  | .bool _ => true
  | .int _ => true
  | .str _ => true
def oddAll : List PyData → Bool
  | [] => true
  | x :: xs => odd x && oddAll xs
end
theorem oddAll_iff : ∀ {xs : List PyData}, oddAll xs = true ↔ ∀ x ∈ xs, odd x = true
  | [] => by simp [oddAll]
  | x :: xs => by rw [oddAll, Bool.and_eq_true, oddAll_iff]; simp
def kindA : PyData → Nat
  | .int _ => 1
  | .bool _ => 2
  | .tuple _ => 3
  | .str _ => 4
  | _ => 0
def anyQ (f : Nat → Bool) (d : PyData) : Option Bool := if odd d = true then some (f (kindA d)) else none
def isIntA := anyQ fun k => k == 1 || k == 2
def isBoolA := anyQ fun k => k == 2
def isTupA := anyQ fun k => k == 3
def isStrA := anyQ fun k => k == 4
def tyA : PyData → String
  | .none => "NoneType"
  | .bool _ => "bool"
  | .int _ => "int"
  | .str _ => "str"
  | .list _ => "list"
  | .tuple _ => "tuple"
  | .dict _ => "dict"
structure OdI (K : PySem.W.Frag) (T : String) : Prop where
  no : ∀ C, PySem.W.nsIn K mainGlobals "Sheet" = some (some (.ref C)) → Cls K C ∧ PySem.W.findIn K (.ref C) "__class__" = some (some (.builtin "object.__class__")) ∧
    PySem.W.specialIn K (.builtin "object.__class__") "__get__" = some (some (.builtin "getset_descriptor.__get__")) ∧ PySem.W.takesIn K (.builtin "object.__class__") = some true ∧ PySem.W.mroIn K C (.type "object") = some true ∧ PySem.W.kitOne K (.ref C) (.type T) = some false
theorem tyA_of {K : PySem.W.Frag} {H : Hp} {v : V} {d : PyData} (h : Dp K H v d) (o : odd d = true) : TyX K H v (.type (tyA d)) ∨ (tyA d = "dict" ∧ ∃ a C dx us, v = .ref a ∧ H a = some (.ins C dx us) ∧ PySem.W.nsIn K mainGlobals "Sheet" = some (some (.ref C))) := by
  by_cases n : ∃ kvs, d = .dict kvs
  · obtain ⟨kvs, rfl⟩ := n
    have e : (PyData.dict kvs) = dkD [] ∨ ∃ m, PyData.dict kvs = obD m := by
      unfold odd at o
      split at o
      · exact .inl rfl
      · exact .inr ⟨_, rfl⟩
      · cases o
    rcases e with e | ⟨m, e⟩
    · rw [e] at h
      left
      generalize ed : dkD [] = d at h
      cases h with
      | dk h => exact .base (.dK h)
      | dt h => exact .base (.dT h)
      | dn h => exact .base (.dT h)
      | _ => simp [adD, dkD, dtD, e0D, xD, dnD, obD] at ed
    · rw [e] at h
      right
      generalize ed : obD m = d at h
      cases h with
      | ob h c l1 l2 l3 h2 => exact ⟨rfl, _, _, _, _, rfl, h, c⟩
      | _ => simp [adD, dkD, dtD, e0D, xD, dnD, obD] at ed
  · have : tyD d = some (tyA d) := by
      cases d <;> first | rfl | exact absurd ⟨_, rfl⟩ n
    exact .inl (ty_of h this)
def IsFA (T : String) (f : PyData → Option Bool) : Prop := ∀ d k, f d = some k → odd d = true ∧ kitB (tyA d) T = some k ∧ (tyA d = "dict" → k = false)
section
variable {X : Cx} {e a b : Expr} {es : List Expr} {we wa wb : WE} {ua : WA} {ux : WAX} {pos p p2 : Pos} {x : Str}
theorem de_isiA {T : String} {tx : Str} {f : PyData → Option Bool} (hf : IsFA T f) (oi : OdI X.K T) (hg : Gl X "isinstance") (hm : X.mg "isinstance" = none) (he : DE X e we) (hgT : Gl X tx) (hmT : X.mg tx = none) (hv : bootBuiltins tx = some (.type T))
    (h1 : starEach [e, .Name tx p2] X.env = (false, eval e X.env) :: starEach [.Name tx p2] X.env := by rfl) (h2 : starEach [.Name tx p2] X.env = (false, eval (.Name tx p2) X.env) :: starEach [] X.env := by rfl) (hpl : (backTo pos (starEach [.Name tx p2] X.env)).any (·.1) = false := by rfl)
    (hn : tx ≠ "__name__" := by decide) (hd : (tx == ("__debug__" : Str)) = false := by decide) : DE X (.Call (.Name "isinstance" p) [e, .Name tx p2] [] pos) (wIsi f we) := by
  refine pe_weak (pe_callB call_isi hg hm (by decide +kernel) (pa_cons he (pa_cons (pe_bltn hgT hmT hv (v := .ty T) rfl hn hd) pa_nil h2) h1) (he := h1) (hpl := hpl)) fun σ H Q ⟨O, δ, P, R0, w, g⟩ => ?_
  refine ⟨O, δ, _, R0, w, fun r δ1 v H1 w1 s1 R1 k1 => ?_⟩
  have dq := (held0 R0 k1 R1).dp hid_le
  split at w1
  · rename_i k q
    obtain ⟨q1, q2, q3⟩ := hf _ _ q
    rcases tyA_of dq q1 with t | ⟨td, a, C, dx, us, rfl, h1, h2⟩
    · exact ⟨v, .ty T, .type (tyA r.as), .type T, k, rfl, .ty T, t, kit_ty q2, g _ _ _ _ w1 s1 R1 (.bl k)⟩
    · obtain rfl := q3 td
      obtain ⟨cl, e1, e2, e3, e4, e5⟩ := oi.no _ h2
      exact ⟨_, .ty T, .ref C, .type T, false, rfl, .ty T, .base (.ins h1 cl e1 e2 e3 e4), e5, g _ _ _ _ w1 s1 R1 (.bl false)⟩
  · exact w1.elim
theorem isfA {T : String} {f : Nat → Bool} (h : ∀ d : PyData, kitB (tyA d) T = some (f (kindA d))) (h0 : f 0 = false := by decide) : IsFA T (anyQ f) := fun d k e => by
  unfold anyQ at e
  split at e
  · rename_i o
    cases e
    exact ⟨o, h d, fun t => by cases d <;> first | (exact h0) | (simp [tyA] at t)⟩
  · cases e
theorem isfA_int : IsFA "int" isIntA := isfA fun d => by cases d <;> (simp only [tyA, kindA]; decide +kernel)
theorem isfA_bool : IsFA "bool" isBoolA := isfA fun d => by cases d <;> (simp only [tyA, kindA]; decide +kernel)
theorem isfA_tuple : IsFA "tuple" isTupA := isfA fun d => by cases d <;> (simp only [tyA, kindA]; decide +kernel)
theorem isfA_str : IsFA "str" isStrA := isfA fun d => by cases d <;> (simp only [tyA, kindA]; decide +kernel)
def wE0 : WE := fun δ P => P (.d (dkD [])) δ
theorem de_nil {p0 : Pos} : DE X (.Dict [] [] p0) wE0 := by
  refine pe_weak pe_dnewK fun σ H Q ⟨O, δ, P, R0, w, g⟩ => fun a na => ?_
  refine g _ δ _ _ w (Stp.laid R0 na) (R0.laid na) ?_
  refine .dk (kvs := []) ?_
  rw [hid_no (R0.fresh na)]
  exact upd_same
def wNevS : WS := fun _ _ => False
def wCallX0 (S : WEX) (u : WA) : WE := fun δ P => u δ fun rs δ1 => rs.all noB = true ∧ S (rs.map fun r => .d r.as) (fun r _ => match r with | .b _ _ => False | _ => P r δ1) fun _ => False
theorem de_callX0 {k : Nat} {S : WEX} (F : FnX X.prog X.w X.K X.mg X.base k x S) (g0 : X.A.guards = some []) (room : Room k X.A) (hg : Gl X x) (ha : DA X (e :: es) ua)
    (hdb : (x == ("__debug__" : Str)) = false := by decide) (he : starEach (e :: es) X.env = (false, eval e X.env) :: starEach es X.env := by rfl) (hpl : (backTo pos (starEach es X.env)).any (·.1) = false := by rfl) : DE X (.Call (.Name x p) (e :: es) [] pos) (wCallX0 S ua) := by
  obtain ⟨f, fd, ps, hm, hk, hb, h4⟩ := F.ex
  refine pe_weak (pe_callGS (E := fun _ _ _ _ => False) h4 g0 room hg hm hk hb (fun σ pins H s er s' I hq => ?_) ha hdb he hpl) fun σ H Q ⟨O, δ, P, R0, w, g⟩ => ?_
  · obtain ⟨a, B, H', cls, d, z1, fl, z2, ub, z3, z4, z5, z6⟩ := hq
    exact z6.elim
  refine ⟨O, δ, _, R0, w, fun rs δ1 vs H1 w1 s1 R1 k1 => ?_⟩
  obtain ⟨w0, w1⟩ := w1
  have hR := rep_args R1 (RvsOk.dp R0 R1 k1 w0)
  rw [List.map_map] at hR
  exact ⟨O, _, _, _, hR, w1, fun r δ' v H' w2 s2 R2 k2 => call_back R0 s1 R1 g w2 s2 k2, fun n cls H' pn mn xs => pn.elim⟩
end
end Dw
namespace Dw
open PySem PySem.Spec PyProof.Rows L2
open LamX (Tabs TabS CodeO)
section
variable {K : PySem.W.Frag} {T : List (Addr × Str)} {O O1 : Addr → Prop} {δ δ1 δ2 : Dl} {σ σ1 : L2.St} {H H1 H2 : Hp} {v : V} {r : Rv}
theorem fin_ofT {P : Rv → Dl → Prop} {Q : VK} (R0 : Rep K O δ σ (msk T H)) (t2 : Tabs T H2) (s : Stp O δ δ2 σ (msk T H) (msk T H2)) (R : Rep K O δ2 σ (msk T H2))
    (f : ∀ r δ' v H', P r δ' → Tabs T H' → Stp O δ δ' σ (msk T H) (msk T H') → Rep K O δ' σ (msk T H') → RvOk K O σ δ' (msk T H) (msk T H') v r → Q v H') : Fin K (hid (msk T H2) O) H2 (fun r => P r δ2) Q := by
  refine ⟨fun v z pz dz => f _ _ _ _ pz t2 s R dz, fun zs vs p pz dz hp => ?_, fun zs vs p pz dz hp => ?_⟩
  · have mp : msk T H2 p = none := msk_none hp
    have e := msk_upd (o := .lst vs) t2 hp
    refine f _ _ _ _ pz (tabs_upd t2 hp) ?_ ?_ ?_
    · rw [e]; exact s.trans (Stp.laid R mp)
    · rw [e]; exact R.laid mp
    · rw [e]; exact ⟨p, vs, rfl, fresh_back R0 R s mp, upd_same, DpAll.up dz (hid_newO mp), R.laidO mp⟩
  · have mp : msk T H2 p = none := msk_none hp
    have e := msk_upd (o := .tup vs) t2 hp
    refine f _ _ _ _ pz (tabs_upd t2 hp) ?_ ?_ ?_
    · rw [e]; exact s.trans (Stp.laid R mp)
    · rw [e]; exact R.laid mp
    · rw [e]
      refine .tup ?_ (DpAll.up dz (hid_new mp))
      rw [hid_no (R.fresh mp)]; exact upd_same
theorem lift2T {R : R2D} {r : R2} {wa wb : WE} (h : OpD K r R) {Q : VK} (q : liftTb T K (w2 R wa wb) σ H Q) : tOp r (liftTb T K wa) (liftTb T K wb) σ H Q := by
  obtain ⟨t, O, δ, P, R0, w, f⟩ := q
  refine ⟨t, O, δ, _, R0, w, fun r1 δ1 v1 H1 w1 t1 s1 R1 k1 => ?_⟩
  refine ⟨t1, O, δ1, _, R1, w1, fun r2 δ2 v2 H2 w2 t2 s2 R2 k2 => ?_⟩
  obtain ⟨d1, w2⟩ := held R0 k1 s2.same R2 w2
  have d2 := held0 R1 k2 R2
  have up : ∀ {x : V} {d : PyData}, Dq K (hid (msk T H2) O) (msk T H2) x d → Dq K (hid (msk T H2) O) H2 x d := fun {x d} q => q.imp id fun ⟨p, vs, ds, e1, e2, h1, h2⟩ => ⟨p, vs, ds, e1, e2, sl_mono same_msk h1, h2⟩
  exact h (hid (msk T H2) O) H2 v1 v2 _ _ _ _ (up d1) (up d2) (hid_le.trans same_msk) w2 (fin_ofT R0 t2 (s1.trans s2) R2 f)
theorem liftBT {w : WE} {Q : Bool → Hp → Prop} (q : liftTT T K (wB w) σ H Q) : liftTb T K w σ H (fun x H1 => ∃ k, x = .bl k ∧ Q k H1) := by
  obtain ⟨t, O, δ, P, R0, w, f⟩ := q
  refine ⟨t, O, δ, _, R0, w, fun r δ1 v H1 w1 t1 s1 R1 k1 => ?_⟩
  split at w1
  · rename_i k
    have k1 : Dp K (hid (msk T H1) O) v (.bool k) := k1
    cases k1
    exact ⟨k, rfl, f _ _ _ w1 t1 s1 R1⟩
  · exact w1.elim
end
section
variable {T : List (Addr × Str)} {X : Cx} {a b e : Expr} {es : List Expr} {wa wb we : WE} {ua : WA} {pos p apos cpos : Pos} {y : Str}
theorem dtT_cmp {op : CmpOp} {r : R2} {R : R2D} (ho : OpR X (compareOp op) r) (hd : OpD X.K r R) (ha : DET T X a wa) (hb : DET T X b wb) (hm : behindInMarks op b = false) : DTT T X (.Compare a [op] [b] pos) (wB (w2 R wa wb)) :=
  pt_weak (pt_cmpR ho ha hb hm) fun _ _ _ q => lift2T hd (liftBT q)
theorem dtT_ne (hu : X.A.units + 64 < cLine) (ha : DET T X a wa) (hb : DET T X b wb) : DTT T X (.Compare a [.NotEq] [b] pos) (wB (w2 rNeT wa wb)) := dtT_cmp ((op_neD hu).or op_ne) opd_ne ha hb (nomark _)
theorem opd_catL {K : PySem.W.Frag} : OpD K (rCatL K) rCatLD := by
  intro G H x y d e P Q hx hy s r f
  unfold rCatLD at r
  split at r
  · obtain ⟨p, vs, rfl, h1, h2⟩ := hx.lst s
    obtain ⟨q, us, rfl, h3, h4⟩ := hy.lst s
    exact ⟨p, q, vs, us, rfl, rfl, h1, h3, Nat.le_of_lt (small5 (by rw [da_len h2, da_len h4]; exact r.1)), fun l hl => f.2.1 _ _ l r.2 (da_app h2 h4) hl⟩
  · exact r.elim
theorem deT_lst (h : DAT T X es ua) : DET T X (.List es pos) (wLst ua) := by
  refine pe_weak (pe_lst h) fun σ H Q ⟨t, O, δ, P, R0, w, f⟩ => ?_
  refine ⟨t, O, δ, _, R0, w, fun rs δ1 vs H1 w1 t1 s1 R1 k1 => ?_⟩
  obtain ⟨⟨q1, q2⟩, w1⟩ := w1
  refine ⟨Nat.le_of_lt (small1000 (by rw [RvsOk.len k1]; exact q2)), fun p hp => ?_⟩
  exact (fin_ofT R0 t1 s1 R1 f).2.1 _ _ p w1 (RvsOk.dp R0 R1 k1 q1) hp
end
end Dw
namespace Dw
open PySem PySem.Spec PyProof.Rows L2
theorem tuple_mul1 (l : Addr) (items : Array Value) (n : Nat) (dd : Option Addr) (sl : Array (Option Value)) (u : Tok) :
    Meets (Builtin.«tuple.__mul__» ⟨[.ref l, .int 1 u], []⟩) (fun _ R s => s.heap.get? l = some { cls := .type "tuple", dict := dd, data := .seq items n, slots := sl } ∧ R (.ok (.ret (Value.ref l))) s) :=
  .of_wp fun prog w A R s h => by
    obtain ⟨hp, g, d, tk, os⟩ := s
    obtain ⟨hl, h⟩ := h
    have f1 := AutoSeq1.idx_int
    have e1 : (items.isEmpty || (1 : Int) == 1) = true := by simp
    wp_walk using wpAny_loadPart' hl
    repeat (first
      | (refine wpAny_ite_false (by decide) ?_; wp_walk using wpAny_loadPart' hl)
      | (refine wpAny_ite_true e1 ?_; wp_walk using wpAny_loadPart' hl))
    exact ⟨_, rfl, h⟩
theorem tuple_mul0 (l : Addr) (items : Array Value) (n : Nat) (dd : Option Addr) (sl : Array (Option Value)) (u : Tok) (c1 : items.isEmpty = false) :
    Meets (Builtin.«tuple.__mul__» ⟨[.ref l, .int 0 u], []⟩) (fun _ R s => s.heap.get? l = some { cls := .type "tuple", dict := dd, data := .seq items n, slots := sl } ∧
      R (.ok (.ret (Value.ref s.heap.objs.size))) { s with heap := s.heap.push { cls := Value.type "tuple", data := Data.seq #[] }, toks := s.toks }) :=
  .of_wp fun prog w A R s h => by
    obtain ⟨hp, g, d, tk, os⟩ := s
    obtain ⟨hl, h⟩ := h
    have f1 := AutoSeq1.idx_int
    have e1 : (items.isEmpty || (0 : Int) == 1) = false := by rw [c1]; rfl
    wp_walk using wpAny_loadPart' hl
    repeat (first
      | (refine wpAny_ite_false (by decide) ?_; wp_walk using wpAny_loadPart' hl)
      | (refine wpAny_ite_false (decide_eq_false (by rw [e1]; exact Bool.false_ne_true)) ?_; wp_walk using wpAny_loadPart' hl)
      | (refine wpAny_ite_false (by rw [e1]; exact Bool.false_ne_true) ?_; wp_walk using wpAny_loadPart' hl)
      | (refine wpAny_ite_true (by simp) ?_; wp_walk using wpAny_loadPart' hl))
    exact ⟨_, rfl, h⟩
def rRepA (K : PySem.W.Frag) : R2 := fun x y H Q => ∃ l k xs, x = .ref l ∧ y = .int k ∧ SqT K H l xs ∧ xs ≠ [] ∧ 0 ≤ k ∧ k ≤ 1000 ∧ xs.length ≤ 1000 ∧ (k = 1 → Q (.ref l) H) ∧ (k ≠ 1 → ∀ p, H p = none → Q (.ref p) (upd H p (.tup (List.replicate k.toNat xs).flatten)))
section
variable {X : Cx} {a b : Expr} {es : List Expr} {wa wb : WE} {ua : WA} {pos pos2 pk : Pos}
theorem op_repA : OpR X (binaryOp .Mult) (rRepA X.K) := by
  intro pins s σ H x y v u Q I rx ry h
  obtain ⟨l, k, xs, rfl, rfl, hT, hne, h1, h2, hz, q1, q2⟩ := h
  by_cases big : 2 ≤ k
  · exact op_repT pins s σ H _ _ v u Q I rx ry ⟨l, k, xs, rfl, rfl, hT, hne, big, h2, hz, q2 (by omega)⟩
  cases rx
  obtain ⟨t, rfl⟩ := ry
  obtain ⟨its, r, ⟨⟨cls, dd, data, sl⟩, ho, hc, n, hd⟩, hs⟩ := I.tuple hT
  simp only at hc hd
  subst hc hd
  have hi : its.toArray.isEmpty = false := by
    cases its with
    | nil =>
      cases r
      exact absurd rfl hne
    | cons a b => rfl
  rcases (show k = 1 ∨ k = 0 by omega) with rfl | rfl
  · refine wpAny_binaryOp_repeat_ref (T := "tuple") (U := "int") (by decide) ⟨_, ho, rfl⟩ (fun s' => typeIs_int s' 1 t) noFill_tuple_mul F.fills_int_mul F.slot_int_rmul repeat_tuple F.slot_int_index.lookup
      (call_meets F.slot_int_rmul (typeIs_int s 1 t) F.entry_int_rmul (F.args_int_rmul_2 _ _) (int_rmul_tuple 1 t l its.toArray n dd sl)
        ⟨ho, rfl, ⟨_, ho, rfl⟩, call_meets F.slot_tuple_mul ⟨_, ho, rfl⟩ F.entry_tuple_mul (F.args_tuple_mul_2 _ _) (tuple_mul1 l its.toArray n dd sl t) ⟨ho, ?_⟩⟩)
    exact ⟨.ref l, H, I, rfl, q1 rfl⟩
  · refine wpAny_binaryOp_repeat_ref (T := "tuple") (U := "int") (by decide) ⟨_, ho, rfl⟩ (fun s' => typeIs_int s' 0 t) noFill_tuple_mul F.fills_int_mul F.slot_int_rmul repeat_tuple F.slot_int_index.lookup
      (call_meets F.slot_int_rmul (typeIs_int s 0 t) F.entry_int_rmul (F.args_int_rmul_2 _ _) (int_rmul_tuple 0 t l its.toArray n dd sl)
        ⟨ho, rfl, ⟨_, ho, rfl⟩, call_meets F.slot_tuple_mul ⟨_, ho, rfl⟩ F.entry_tuple_mul (F.args_tuple_mul_2 _ _) (tuple_mul0 l its.toArray n dd sl t hi) ⟨ho, ?_⟩⟩)
    refine ⟨.ref s.heap.objs.size, _, I.laid (t' := s.toks) (o := .tup []) (fun b ob q => Heap.get?_push_of_some _ q) (Nat.le_refl _) ?_, rfl, q2 (by decide) _ (I.hok.fresh (Nat.le_refl _))⟩
    exact ⟨Nat.zero_le _, [], .nil, IsTup.new _ _⟩
def rRepAD : R2D := fun d e P => match d, e with
  | .tuple xs, .int k => (xs ≠ [] ∧ 0 ≤ k ∧ k ≤ 1000 ∧ xs.length ≤ 1000) ∧ P (.d (.tuple (List.replicate k.toNat xs).flatten))
  | _, _ => False
theorem de_tmulA (ha : DE X a wa) (hb : DE X b wb) : DE X (.BinOp a .Mult b pos) (w2 rRepAD wa wb) := de_op op_repA (by
  intro G H x y d e P Q hx hy s r f
  unfold rRepAD at r
  split at r
  · rename_i xs k
    obtain ⟨⟨h1, h2, h3, h4⟩, r⟩ := r
    have hx0 := hx
    obtain ⟨l, vs, rfl, hq, ha⟩ := hx.tup s
    have ll := da_len ha
    refine ⟨l, k, vs, rfl, hy.int, hq, fun z => h1 ?_, h2, h3, by rw [ll]; exact h4, fun e1 => ?_, fun _ p hp => f.2.2 _ _ p r (da_rep ha k.toNat) hp⟩
    · subst z
      cases ha
      rfl
    · subst e1
      have e2 : (List.replicate (1 : Int).toNat xs).flatten = xs := by simp
      rw [e2] at r
      refine f.1 _ _ r ?_
      rcases hx0 with h | ⟨_, _, _, _, e, _⟩
      · exact h
      · cases e
  · exact r.elim) ha hb
end
end Dw
namespace Dw
open PySem PySem.Spec PyProof.Rows L2
section
variable {X : Cx} {a b : Expr} {es : List Expr} {wa wb : WE} {ua : WA} {pos pos2 pk : Pos}
def wLmul (k : Nat) (u : WA) : WE := fun δ P => u δ fun rs δ1 => (rs.all noB = true ∧ rs.length ≤ 100) ∧ P (.l (List.replicate k (rs.map Rv.as)).flatten) δ1
end
end Dw
namespace Dw
open PySem PySem.Spec PyProof.Rows L2
open LamX (Tabs)
section
variable {T : List (Addr × Str)} {X : Cx} {e : Expr} {es : List Expr} {we : WE} {ua : WA} {pos p : Pos} {x : Str} {f : Addr} {fd : FuncData} {ps : List Str} {k : Nat} {S : WE}
def wCall0 (S : WE) : WE := fun δ P => S [] fun r _ => match r with | .b _ _ => False | _ => P r δ
theorem de_call00 (F : Fn X.prog X.w X.K X.mg X.base k x S) (g0 : X.A.guards = some []) (room : Room k X.A) (hg : Gl X x) (hdb : (x == ("__debug__" : Str)) = false := by decide) :
    DE X (.Call (.Name x p) [] [] pos) (wCall0 S) := by
  obtain ⟨f, fd, ps, hm, hk, hb, F⟩ := F.ex
  refine ⟨fun pins s σ H Q I ⟨O, δ, P, R0, w, g⟩ => wpAny_Call_Name_kw (ld_glob I hg hm (PySem.W.callWith_K0 (first := []) I.kIn hk ?_) hdb)⟩
  refine runG F g0 room hb (pass0 (X := X)) I .nil ⟨O, [], _, rep_nil R0.occ, w, fun r δ' v H' w2 s2 R2 k2 => ?_⟩
  have fr : ∀ a, O a → H' a = H a := fun a z => s2.frame a z fun q => q.elim (fun ⟨i, xs, e1, _⟩ => by simp at e1) fun ⟨i, xs, e1, _⟩ => by simp at e1
  have st : Stp O δ δ σ H H' := ⟨s2.same, fun a z _ => fr a z, fun _ => Iff.rfl, fun _ _ => Iff.rfl, dct_refl⟩
  cases r with
  | b i xs => exact w2.elim
  | d x => exact g _ _ _ _ w2 st (R0.mv s2.same fr) k2
  | l xs =>
    obtain ⟨p, us, e1, n, e, ha, hr⟩ := k2
    exact g _ _ _ _ w2 st (R0.mv s2.same fr) ⟨p, us, e1, n, e, ha, R0.mvO (fun a z => .inl z) (same_hide s2.same n) fr hr.occ⟩
end
end Dw
namespace B
open PySem PySem.Spec PyProof.Rows L2 Dw
local macro_rules | `(tactic| walk_at "ds") => `(tactic| try dsimp only [wRevT, wCallX0, wCall0, wE0, wNevS, wLmul, wCntL, wCntL1, wIsE, wStrE, wForget, wBrw, wCallL, endL, wRet, wRetN, sPu, wThenX, wIfX, wRetX, wDropX, wSetX, wCallX, wCallP, uPu, wPu, uConsX, wRaise, wDc, wDcT, wDZ, wD1, wGet1, wGet2, wGetT, wThen, wIfS, wIf, wNotT, Dw.wTru, wB, w2, wV, wC, wCons, wNil, wCall, wCallO, wCallO1, endO, wCB, wLc, wSeq, wYes, wNext, wNever, wDrop, wSet, wAsg, wPair, wFor, wTup, wLst, wAndV, wOrV, wNotV, wNeg, wAndT, wOrT, wIsi, wChain, wSlice, wPart, wNo, wZip, wEnum, wRng1, wRng2, wLc2, wApp, wApp1, wPop, wPop1, wExt, wExt1, wSetI, wSetI1, wSetD, wDat, wTupRg, wLstRg, wTupS, wCBX, wCallE, wCallPE, rngL, wIdx, wIdx1, wExtL, wExtL1, wLenM, wNotInM, wGetM, wPutM, wPutM1, wSetK, wTri, wForget, rCatTD, rCatLD, intsR, Option.map_some, bN, bTup, bCons, bNil, as_d, as_l, as_b, noB_d, noB_l, still_d, still_l, still_b, put_d, put_l, tru_bool, tru_tup, tru_lst, isT_tup, isI_int, isB_int, stillA_nil, stillA_cons, map0, map1, map2, map3, len_l, len_t, tup_l, tup_t, lst_l, lst_t, max_i, min_i, List.all_cons, List.all_nil, Bool.and_self, Bool.and_true, Bool.not_true, Bool.not_false, List.getElem?_cons_zero, List.getElem?_cons_succ, List.cons_append, List.nil_append, List.append_nil, List.reduceReplicate, Nat.reduceSub, Nat.sub_self, rI1, rI2, rAddD, rSubD, rMulD, rDivD, rModD, rPowD, rLtD, rLeD, rGtD, rGeD, List.set_cons_zero, List.set_cons_succ, List.set_nil, endsOf, outD, wipeD])
def intOf : PyData → Int
  | .int i => i
  | _ => 0
def numB (lo hi : Int) : PyData → Bool
  | .int i => decide (lo ≤ i) && decide (i ≤ hi)
  | _ => false
def ascB (xs : List PyData) : Bool := (xs.zip (xs.drop 1)).all fun p => decide (intOf p.1 < intOf p.2)
def numsB (lo hi : Int) : PyData → Bool
  | .tuple xs => xs.all (numB lo hi) && ascB xs
  | _ => false
def manyB : PyData → Bool := numB 1 5
def innB (t : PyData) : PyData → Bool
  | .tuple xs => xs.any fun x => decide (intOf x = intOf t)
  | _ => false
def ruleB (m : Int) : PyData → Bool
  | .tuple [g, t] => numsB 0 (m - 1) g && (numB 0 (m - 1) t && !innB t g)
  | _ => false
def rulesB (m : Int) : PyData → Bool
  | .tuple xs => decide (xs.length ≤ 8) && xs.all (ruleB m)
  | _ => false
def S_is_numberA : WE := fun δ P => ∃ d lo hi, δ = [.d d, .d (.int lo), .d (.int hi)] ∧ odd d = true ∧ P (.d (.bool (numB lo hi d))) δ
def S_is_number_setA : WE := fun δ P => ∃ d lo hi, δ = [.d d, .d (.int lo), .d (.int hi)] ∧ odd d = true ∧ P (.d (.bool (numsB lo hi d))) δ
def S_is_manyA : WE := fun δ P => ∃ d, δ = [.d d] ∧ odd d = true ∧ P (.d (.bool (manyB d))) δ
def S_is_columnA : WE := fun δ P => ∃ m d, δ = [.d (.int m), .d d] ∧ odd d = true ∧ P (.d (.bool (numB 0 (m - 1) d))) δ
def S_are_columnsA : WE := fun δ P => ∃ m d, δ = [.d (.int m), .d d] ∧ odd d = true ∧ P (.d (.bool (numsB 0 (m - 1) d))) δ
def S_is_ruleA : WE := fun δ P => ∃ m d, δ = [.d (.int m), .d d] ∧ odd d = true ∧ P (.d (.bool (ruleB m d))) δ
def S_need_manyX : WEX := fun δ P PX => ∃ d, δ = [.d d] ∧ odd d = true ∧ if manyB d = true then P (.d .none) δ else PX "NoMany"
def S_are_rulesX : WEX := fun δ P PX => ∃ m d, δ = [.d (.int m), .d d] ∧ 1 ≤ m ∧ m ≤ 5 ∧ odd d = true ∧ P (.d (.bool (rulesB m d))) δ
def S_need_rulesX : WEX := fun δ P PX => ∃ m d, δ = [.d (.int m), .d d] ∧ 1 ≤ m ∧ m ≤ 5 ∧ odd d = true ∧ if rulesB m d = true then P (.d .none) δ else PX "NoRules"
def wb_is_numberA : WS := (wRet (wAndV (wIsi isIntA (wV 0)) (wAndV (wNotV (wIsi isBoolA (wV 0))) (wChain rLeD rLeD (wV 1) (wV 0) (wV 2)))))
def wb_is_number_setA : WS := (wThen (wIfS (wOrT (wNotT (wTru (wIsi isTupA (wV 0)))) (wNotT (wTru (wCB rAllD (wCons (wLc (wSeq (wV 0)) (bN 3) wYes (wCall S_is_numberA (wCons (wV 3) (wCons (wV 1) (wCons (wV 2) wNil)))) [3]) wNil))))) (wRet (wC (.bool false))) wNext)
      (wRet (wCB rAllD (wCons (wLc (wZip (wCons (wV 0) (wCons (wSlice (wV 0) (wPart (wC (.int 1))) wNo) wNil))) (bTup 2 (bCons (bN 3) (bCons (bN 4) bNil))) wYes (w2 rLtD (wV 3) (wV 4)) [3, 4]) wNil))))
def wb_is_manyA : WS := (wRet (wCall S_is_numberA (wCons (wV 0) (wCons (wC (.int 1)) (wCons (wC (.int 5)) wNil)))))
def wb_is_columnA : WS := (wRet (wCall S_is_numberA (wCons (wV 1) (wCons (wC (.int 0)) (wCons (w2 rSubD (wV 0) (wC (.int 1))) wNil)))))
def wb_are_columnsA : WS := (wRet (wCall S_is_number_setA (wCons (wV 1) (wCons (wC (.int 0)) (wCons (w2 rSubD (wV 0) (wC (.int 1))) wNil)))))
def wb_is_ruleA : WS := (wThen (wIfS (wOrT (wNotT (wTru (wIsi isTupA (wV 1)))) (wB (w2 rNeT (wCB rLenD (wCons (wV 1) wNil)) (wC (.int 2))))) (wRet (wC (.bool false))) wNext)
      (wThen (wAsg (wV 1) (bTup 2 (bCons (bN 2) (bCons (bN 3) bNil))))
      (wRet (wAndV (wCall S_are_columnsA (wCons (wV 0) (wCons (wV 2) wNil))) (wAndV (wCall S_is_columnA (wCons (wV 0) (wCons (wV 3) wNil))) (w2 (rInT true) (wV 3) (wV 2)))))))
def wb_need_manyX : WSX := (wIfX (wNotT (wTru (wCall S_is_manyA (wCons (wV 0) wNil)))) (wRaise "NoMany") (sPu wNext))
def wb_are_rulesX : WSX := (wThenX (wDropX (wCallX S_need_manyX (uPu (wCons (wV 0) wNil))))
      (sPu (wRet (wAndV (wIsi isTupA (wV 1)) (wAndV (w2 rLeD (wCB rLenD (wCons (wV 1) wNil)) (wC (.int 8))) (wCB rAllD (wCons (wLc (wSeq (wV 1)) (bN 2) wYes (wCall S_is_ruleA (wCons (wV 0) (wCons (wV 2) wNil))) [2]) wNil)))))))
def wb_need_rulesX : WSX := (wIfX (wNotT (wTru (wCallX0 S_are_rulesX (wCons (wV 0) (wCons (wV 1) wNil))))) (wRaise "NoRules") (sPu wNext))
section
variable {b : WB} {t : WT} {el : WE} {vs : List Nat} {k : List PyData → Dl → Prop} {δ : Dl}
theorem go_mapN (g : PyData → PyData) (xs : List PyData) (ht : ∀ x ∈ xs, ∀ (C : PyData → Dl → Prop) (C' : Dl → Prop), C (g x) δ → b x δ fun δ1 => t δ1 fun c δ2 => if c = true then el δ2 fun y δ3 => noB y = true ∧ C y.as (wipeD δ3 vs) else C' (wipeD δ2 vs)) (h : k (xs.map g) δ) : wGo b t el vs k xs [] δ := by
  have := go_mapT (f := fun d : PyData => d) g xs ht h
  rwa [List.map_id'] at this
end
theorem isA {d : PyData} {f : Nat → Bool} (o : odd d = true) : anyQ f d = some (f (kindA d)) := by unfold anyQ; rw [if_pos o]
theorem oddT {xs : List PyData} (o : odd (.tuple xs) = true) : ∀ x ∈ xs, odd x = true := by
  have : decide (xs.length ≤ 1000) = true ∧ oddAll xs = true := by simpa only [odd, Bool.and_eq_true] using o
  exact oddAll_iff.mp this.2
theorem oddL {xs : List PyData} (o : odd (.tuple xs) = true) : xs.length ≤ 1000 := by
  have : decide (xs.length ≤ 1000) = true ∧ oddAll xs = true := by simpa only [odd, Bool.and_eq_true] using o
  exact of_decide_eq_true this.1
theorem hS_is_numberA : ∀ δ P, S_is_numberA δ P → ArgOk 3 δ ∧ wb_is_numberA (endsOf δ P) (δ ++ List.replicate (3 - 3) Sl.un) := by
  rintro δ P ⟨d, lo, hi, rfl, ho, h⟩
  refine ⟨argD [d, .int lo, .int hi], ?_⟩
  unfold wb_is_numberA isIntA isBoolA
  walk_at "ds"
  rw [isA ho]
  cases d with
  | int i =>
    walk_at "ds"
    refine ifT rfl ?_
    rw [isA ho]
    refine ifT rfl ?_
    have e : numB lo hi (.int i) = (decide (lo ≤ i) && decide (i ≤ hi)) := rfl
    rw [e] at h
    cases q : decide (lo ≤ i) with
    | true => rw [q] at h; exact ifT rfl h
    | false => rw [q] at h; exact ifF rfl h
  | bool i =>
    refine ifT rfl ?_
    rw [isA ho]
    exact ifF rfl h
  | none => exact ifF rfl h
  | str i => exact ifF rfl h
  | list xs => exact ifF rfl h
  | tuple xs => exact ifF rfl h
  | dict xs => exact ifF rfl h
theorem hS_is_manyA : ∀ δ P, S_is_manyA δ P → ArgOk 1 δ ∧ wb_is_manyA (endsOf δ P) (δ ++ List.replicate (1 - 1) Sl.un) := by
  rintro δ P ⟨d, rfl, ho, h⟩
  exact ⟨argD [d], rfl, d, 1, 5, rfl, ho, h⟩
theorem hS_is_columnA : ∀ δ P, S_is_columnA δ P → ArgOk 2 δ ∧ wb_is_columnA (endsOf δ P) (δ ++ List.replicate (2 - 2) Sl.un) := by
  rintro δ P ⟨m, d, rfl, ho, h⟩
  exact ⟨argD [.int m, d], rfl, d, 0, m - 1, rfl, ho, h⟩
theorem ints_of : ∀ {xs : List PyData} {lo hi : Int}, xs.all (numB lo hi) = true → ∃ ns : List Int, xs = ns.map PyData.int ∧ ∀ n ∈ ns, lo ≤ n ∧ n ≤ hi
  | [], _, _, _ => ⟨[], rfl, fun n hn => by cases hn⟩
  | x :: xs, lo, hi, h => by
    rw [List.all_cons, Bool.and_eq_true] at h
    obtain ⟨ns, e, hn⟩ := ints_of h.2
    cases x with
    | int i =>
      have q : (decide (lo ≤ i) && decide (i ≤ hi)) = true := h.1
      rw [Bool.and_eq_true, decide_eq_true_eq, decide_eq_true_eq] at q
      refine ⟨i :: ns, by rw [e]; rfl, fun n hm => ?_⟩
      rcases List.mem_cons.mp hm with z | z
      · rw [z]; exact q
      · exact hn n z
    | _ => cases h.1
theorem hS_is_number_setA : ∀ δ P, S_is_number_setA δ P → ArgOk 3 δ ∧ wb_is_number_setA (endsOf δ P) (δ ++ List.replicate (5 - 3) Sl.un) := by
  rintro δ P ⟨d, lo, hi, rfl, ho, h⟩
  refine ⟨argD [d, .int lo, .int hi], ?_⟩
  unfold wb_is_number_setA isTupA
  refine seqT fun T hT => ?_
  walk_at "ds"
  rw [isA ho]
  cases d with
  | tuple xs =>
    have hb := oddL ho
    walk_at "ds"
    refine ifF rfl ?_
    refine ⟨⟨by omega, rfl⟩, ?_⟩
    refine go_mapN (fun x => .bool (numB lo hi x)) xs (fun x hx C C' h2 => ?_) ?_
    · walk_at "ds"
      refine ifT rfl ?_
      exact ⟨rfl, x, lo, hi, rfl, oddT ho x hx, rfl, h2⟩
    refine all_ok (xs.map (numB lo hi)) (by rw [List.map_map]; rfl) ?_
    have ea : (xs.map (numB lo hi)).all id = xs.all (numB lo hi) := by rw [List.all_map]; rfl
    rw [ea]
    have eh : numsB lo hi (.tuple xs) = (xs.all (numB lo hi) && ascB xs) := rfl
    rw [eh] at h
    walk_at "ds"
    cases q : xs.all (numB lo hi) with
    | false =>
      rw [q] at h
      refine ifT rfl ?_
      exact h
    | true =>
      rw [q, Bool.true_and] at h
      refine ifF rfl ?_
      obtain ⟨ns, rfl, hn⟩ := ints_of q
      subst hT
      walk_at "ds"
      refine ⟨rfl, ?_⟩
      have ecut : Dw.cutD (ns.map PyData.int) (some 1) none = (ns.drop 1).map PyData.int := by
        rw [List.map_drop]
        by_cases z : 1 ≤ ns.length
        · exact cut_hi (ns.map PyData.int) 1 (by rw [List.length_map]; exact z)
        · have : ns = [] := List.eq_nil_of_length_eq_zero (by omega)
          subst this
          rfl
      have ez : ∀ (a b : List Int), zipD (a.map PyData.int) (b.map PyData.int) = (a.zip b).map fun p => PyData.tuple [.int p.1, .int p.2] := by
        intro a
        induction a with
        | nil => intro b; cases b <;> rfl
        | cons x r ih =>
          intro b
          cases b with
          | nil => rfl
          | cons y u =>
            show PyData.tuple [.int x, .int y] :: zipD (r.map PyData.int) (u.map PyData.int) = _
            rw [ih u]; rfl
      rw [ecut, ez]
      have el : (ns.zip (ns.drop 1)).length ≤ 1000 := by
        rw [List.length_map] at hb
        rw [List.length_zip]
        omega
      refine ⟨⟨by rw [List.length_map]; omega, rfl⟩, ?_⟩
      refine go_mapT (fun p : Int × Int => PyData.tuple [.int p.1, .int p.2]) (fun p => .bool (decide (p.1 < p.2))) (ns.zip (ns.drop 1)) (fun p hp C C' h2 => ?_) ?_
      · walk_at "ds"
        exact ⟨rfl, ifT rfl ⟨rfl, h2⟩⟩
      refine all_ok ((ns.zip (ns.drop 1)).map fun p => decide (p.1 < p.2)) (by rw [List.map_map]; rfl) ?_
      have e2 : ((ns.zip (ns.drop 1)).map fun p => decide (p.1 < p.2)).all id = ascB (ns.map PyData.int) := by
        unfold ascB
        rw [← List.map_drop, List.all_map, List.zip_map, List.all_map] <;> rfl
      rw [e2]
      exact h
  | none => exact ifT rfl h
  | int i => exact ifT rfl h
  | bool i => exact ifT rfl h
  | str i => exact ifT rfl h
  | list xs => exact ifT rfl h
  | dict xs => exact ifT rfl h
theorem hS_are_columnsA : ∀ δ P, S_are_columnsA δ P → ArgOk 2 δ ∧ wb_are_columnsA (endsOf δ P) (δ ++ List.replicate (2 - 2) Sl.un) := by
  rintro δ P ⟨m, d, rfl, ho, h⟩
  exact ⟨argD [.int m, d], rfl, d, 0, m - 1, rfl, ho, h⟩
theorem innB_ints (i : Int) (ns : List Int) : innB (.int i) (.tuple (ns.map PyData.int)) = decide (i ∈ ns) := by
  show (ns.map PyData.int).any (fun x => decide (intOf x = i)) = _
  rw [List.any_map, Bool.eq_iff_iff, List.any_eq_true, decide_eq_true_iff]
  constructor
  · rintro ⟨n, hn, e⟩
    have : n = i := of_decide_eq_true e
    rw [← this]; exact hn
  · exact fun hn => ⟨i, hn, decide_eq_true rfl⟩
theorem nums_ints {lo hi : Int} {d : PyData} (q : numsB lo hi d = true) : ∃ ns : List Int, d = .tuple (ns.map PyData.int) ∧ ∀ n ∈ ns, lo ≤ n ∧ n ≤ hi := by
  cases d with
  | tuple ys =>
    have qa : (ys.all (numB lo hi) && ascB ys) = true := q
    rw [Bool.and_eq_true] at qa
    obtain ⟨ns, e, hn⟩ := ints_of qa.1
    exact ⟨ns, by rw [e], hn⟩
  | _ => cases q
theorem num_int {lo hi : Int} {d : PyData} (q : numB lo hi d = true) : ∃ i : Int, d = .int i := by
  cases d with
  | int i => exact ⟨i, rfl⟩
  | _ => cases q
theorem hS_is_ruleA : ∀ δ P, S_is_ruleA δ P → ArgOk 2 δ ∧ wb_is_ruleA (endsOf δ P) (δ ++ List.replicate (4 - 2) Sl.un) := by
  rintro δ P ⟨m, d, rfl, ho, h⟩
  refine ⟨argD [.int m, d], ?_⟩
  unfold wb_is_ruleA isTupA
  refine seqT fun T hT => ?_
  walk_at "ds"
  rw [isA ho]
  by_cases two : ∃ g t, d = .tuple [g, t]
  · obtain ⟨g, t, rfl⟩ := two
    walk_at "ds"
    refine ifF rfl ?_
    refine ne_ok (k := true) rfl rfl ?_
    walk_at "ds"
    refine ifF rfl ?_
    have og := oddT ho g (by simp)
    have ot := oddT ho t (by simp)
    have eh : ruleB m (.tuple [g, t]) = (numsB 0 (m - 1) g && (numB 0 (m - 1) t && !innB t g)) := rfl
    rw [eh] at h
    subst hT
    refine seqT fun T hT => ?_
    walk_at "ds"
    refine ⟨rfl, ?_⟩
    walk_at "ds"
    subst hT
    walk_at "ds"
    refine ⟨rfl, m, g, rfl, og, ?_⟩
    walk_at "ds"
    cases q : numsB 0 (m - 1) g with
    | false => rw [q] at h; exact ifF rfl h
    | true =>
    rw [q, Bool.true_and] at h
    refine ifT rfl ?_
    refine ⟨rfl, m, t, rfl, ot, ?_⟩
    walk_at "ds"
    cases q2 : numB 0 (m - 1) t with
    | false => rw [q2] at h; exact ifF rfl h
    | true =>
    rw [q2, Bool.true_and] at h
    refine ifT rfl ?_
    obtain ⟨ns, rfl, _⟩ := nums_ints q
    obtain ⟨i, rfl⟩ := num_int q2
    rw [innB_ints] at h
    refine ⟨⟨rfl, flat_intsL ns⟩, ?_⟩
    rw [in_ints]
    exact h
  · have hf : ruleB m d = false := by
      cases d with
      | tuple xs =>
        rcases xs with _ | ⟨g, _ | ⟨t, _ | ⟨c, r⟩⟩⟩
        · rfl
        · rfl
        · exact absurd ⟨g, t, rfl⟩ two
        · rfl
      | _ => rfl
    rw [hf] at h
    cases d with
    | tuple xs =>
      walk_at "ds"
      refine ifF rfl ?_
      have ne : decide ((xs.length : Int) = 2) = false := decide_eq_false fun z => by
        rcases xs with _ | ⟨g, _ | ⟨t, _ | ⟨c, r⟩⟩⟩
        · cases z
        · cases z
        · exact two ⟨g, t, rfl⟩
        · simp only [List.length_cons] at z; omega
      refine ne_ok (k := decide ((xs.length : Int) = 2)) rfl (eqv_int _ _) ?_
      rw [ne]
      walk_at "ds"
      exact ifT rfl h
    | none => exact ifT rfl h
    | int i => exact ifT rfl h
    | bool i => exact ifT rfl h
    | str i => exact ifT rfl h
    | list xs => exact ifT rfl h
    | dict xs => exact ifT rfl h
theorem hS_need_manyX : ∀ δ P PX, S_need_manyX δ P PX → ArgOk 1 δ ∧ wb_need_manyX (endsOf δ P) PX (δ ++ List.replicate (1 - 1) Sl.un) := by
  rintro δ P PX ⟨d, rfl, ho, h⟩
  refine ⟨argD [d], ?_⟩
  unfold wb_need_manyX
  walk_at "ds"
  refine ⟨rfl, d, rfl, ho, ?_⟩
  walk_at "ds"
  cases q : manyB d with
  | true => rw [q] at h; exact ifF rfl h
  | false => rw [q] at h; exact ifT rfl h
theorem many_int {m : Int} (m1 : 1 ≤ m) (m5 : m ≤ 5) : manyB (.int m) = true := by
  show (decide (1 ≤ m) && decide (m ≤ 5)) = true
  rw [decide_eq_true m1, decide_eq_true m5]; rfl
theorem hS_are_rulesX : ∀ δ P PX, S_are_rulesX δ P PX → ArgOk 2 δ ∧ wb_are_rulesX (endsOf δ P) PX (δ ++ List.replicate (3 - 2) Sl.un) := by
  rintro δ P PX ⟨m, d, rfl, m1, m5, ho, h⟩
  refine ⟨argD [.int m, d], ?_⟩
  unfold wb_are_rulesX isTupA
  walk_at "ds"
  refine ⟨rfl, .int m, rfl, rfl, ?_⟩
  rw [many_int m1 m5]
  refine ifT rfl ?_
  walk_at "ds"
  rw [isA ho]
  cases d with
  | tuple xs =>
    have hb := oddL ho
    walk_at "ds"
    refine ifT rfl ?_
    have eh : rulesB m (.tuple xs) = (decide (xs.length ≤ 8) && xs.all (ruleB m)) := rfl
    rw [eh] at h
    have e8 : decide ((xs.length : Int) ≤ 8) = decide (xs.length ≤ 8) := decide_eq_decide.mpr (by omega)
    rw [e8]
    cases q : decide (xs.length ≤ 8) with
    | false => rw [q] at h; exact ifF rfl h
    | true =>
      rw [q, Bool.true_and] at h
      refine ifT rfl ?_
      refine ⟨⟨by omega, rfl⟩, ?_⟩
      refine go_mapN (fun x => .bool (ruleB m x)) xs (fun x hx C C' h2 => ?_) ?_
      · walk_at "ds"
        refine ifT rfl ?_
        exact ⟨rfl, m, x, rfl, oddT ho x hx, rfl, h2⟩
      refine all_ok (xs.map (ruleB m)) (by rw [List.map_map]; rfl) ?_
      have ea : (xs.map (ruleB m)).all id = xs.all (ruleB m) := by rw [List.all_map]; rfl
      rw [ea]
      exact h
  | none => exact ifF rfl h
  | int i => exact ifF rfl h
  | bool i => exact ifF rfl h
  | str i => exact ifF rfl h
  | list xs => exact ifF rfl h
  | dict xs => exact ifF rfl h
theorem hS_need_rulesX : ∀ δ P PX, S_need_rulesX δ P PX → ArgOk 2 δ ∧ wb_need_rulesX (endsOf δ P) PX (δ ++ List.replicate (2 - 2) Sl.un) := by
  rintro δ P PX ⟨m, d, rfl, m1, m5, ho, h⟩
  refine ⟨argD [.int m, d], ?_⟩
  unfold wb_need_rulesX
  walk_at "ds"
  refine ⟨rfl, m, d, rfl, m1, m5, ho, ?_⟩
  walk_at "ds"
  cases q : rulesB m d with
  | true => rw [q] at h; exact ifF rfl h
  | false => rw [q] at h; exact ifT rfl h
end B
namespace Dw
open PySem PySem.Spec PyProof.Rows L2
inductive Ag where
  | o (i : Nat)
  | r (r : Rv)
abbrev WG1 := Dl → (List Ag → Dl → Prop) → Prop
def AgsOk (K : PySem.W.Frag) (O : Addr → Prop) (σ : L2.St) (δ' : Dl) (H H' : Hp) : List V → List Ag → Prop
  | [], [] => True
  | v :: vs, .o i :: as => σ[i]? = some (some v) ∧ AgsOk K O σ δ' H H' vs as
  | v :: vs, .r r :: as => (∃ δ1 H1, RvOk K O σ δ1 H H1 v r ∧ Same (hid H1 O) (hid H' O)) ∧ AgsOk K O σ δ' H H' vs as
  | _, _ => False
def agNo : List Ag → Bool
  | [] => true
  | .o _ :: as => agNo as
  | .r r :: as => noB r && agNo as
def agI : List Ag → List Nat
  | [] => []
  | .o i :: as => i :: agI as
  | .r _ :: as => agI as
def agD (δ : Dl) : List Ag → Dl
  | [] => []
  | .o i :: as => (δ[i]?.getD .un) :: agD δ as
  | .r r :: as => .d r.as :: agD δ as
def wbk : List Ag → Dl → Dl → Dl
  | .o i :: as, s :: δc, δ => wbk as δc (δ.set i s)
  | .r _ :: as, _ :: δc, δ => wbk as δc δ
  | _, _, δ => δ
def ownB : Option Sl → Bool
  | some (.o _) => true
  | some (.s _) => true
  | _ => false
section
variable {K : PySem.W.Frag} {O : Addr → Prop} {δ δ1 δ2 : Dl} {σ : L2.St} {H H1 H2 : Hp}
theorem AgsOk.back (R : Rep K O δ σ H) (R1 : Rep K O δ1 σ H1) (s : Stp O δ δ1 σ H H1) : ∀ {vs : List V} {as : List Ag}, AgsOk K O σ δ2 H1 H2 vs as → AgsOk K O σ δ2 H H2 vs as
  | [], [], _ => trivial
  | v :: vs, .o i :: as, ⟨h1, h2⟩ => ⟨h1, AgsOk.back R R1 s h2⟩
  | v :: vs, .r r :: as, ⟨⟨δ3, H3, h1, h2⟩, h3⟩ => ⟨⟨δ3, H3, RvOk.back R R1 s h1, h2⟩, AgsOk.back R R1 s h3⟩
  | [], _ :: _, h => h.elim
theorem AgsOk.len : ∀ {vs : List V} {as : List Ag}, AgsOk K O σ δ2 H H2 vs as → vs.length = as.length
  | [], [], _ => rfl
  | v :: vs, .o i :: as, ⟨h1, h2⟩ => by rw [List.length_cons, List.length_cons, AgsOk.len h2]
  | v :: vs, .r r :: as, ⟨h1, h3⟩ => by rw [List.length_cons, List.length_cons, AgsOk.len h3]
  | [], _ :: _, h => h.elim
theorem agD_len : ∀ {as : List Ag}, (agD δ as).length = as.length
  | [] => rfl
  | .o i :: as => by rw [agD, List.length_cons, List.length_cons, agD_len]
  | .r r :: as => by rw [agD, List.length_cons, List.length_cons, agD_len]
theorem AgsOk.at_ : ∀ {vs : List V} {as : List Ag} {k i : Nat}, AgsOk K O σ δ2 H H2 vs as → as[k]? = some (.o i) → ∃ v, vs[k]? = some v ∧ σ[i]? = some (some v)
  | [], [], k, i, _, e => by simp at e
  | v :: vs, .o j :: as, 0, i, ⟨h1, h2⟩, e => by cases e; exact ⟨v, rfl, h1⟩
  | v :: vs, .r r :: as, 0, i, _, e => by cases e
  | v :: vs, .o j :: as, k + 1, i, ⟨h1, h2⟩, e => AgsOk.at_ (k := k) h2 e
  | v :: vs, .r r :: as, k + 1, i, ⟨h1, h2⟩, e => AgsOk.at_ (k := k) h2 e
  | [], _ :: _, _, _, h, _ => h.elim
theorem AgsOk.dat (R : Rep K O δ σ H) (R2 : Rep K O δ2 σ H2) : ∀ {vs : List V} {as : List Ag} {k : Nat} {r : Rv}, AgsOk K O σ δ2 H H2 vs as → agNo as = true → as[k]? = some (.r r) → ∃ v, vs[k]? = some v ∧ Dp K (hid H2 O) v r.as
  | [], [], k, r, _, _, e => by simp at e
  | v :: vs, .o j :: as, 0, r, _, _, e => by cases e
  | v :: vs, .r r0 :: as, 0, r, ⟨h1, h2⟩, n, e => by
    cases e
    rw [agNo, Bool.and_eq_true] at n
    exact ⟨v, rfl, by
      have := RvsOk.dp (vs := [v]) (rs := [r0]) (δ2 := δ2) R R2 ⟨h1, trivial⟩ (by simp [n.1])
      cases this with
      | cons a b => exact a⟩
  | v :: vs, .o j :: as, k + 1, r, ⟨h1, h2⟩, n, e => AgsOk.dat R R2 (k := k) h2 n e
  | v :: vs, .r r0 :: as, k + 1, r, ⟨h1, h2⟩, n, e => AgsOk.dat R R2 (k := k) h2 (by rw [agNo, Bool.and_eq_true] at n; exact n.2) e
  | [], _ :: _, _, _, h, _, _ => h.elim
theorem agD_o : ∀ {as : List Ag} {k i : Nat}, as[k]? = some (.o i) → (agD δ as)[k]? = some (δ[i]?.getD .un)
  | [], k, i, e => by simp at e
  | .o j :: as, 0, i, e => by cases e; rfl
  | .r r :: as, 0, i, e => by cases e
  | .o j :: as, k + 1, i, e => agD_o (as := as) (k := k) e
  | .r r :: as, k + 1, i, e => agD_o (as := as) (k := k) e
theorem agD_r : ∀ {as : List Ag} {k : Nat} {r : Rv}, as[k]? = some (.r r) → (agD δ as)[k]? = some (.d r.as)
  | [], k, i, e => by simp at e
  | .o j :: as, 0, i, e => by cases e
  | .r r :: as, 0, i, e => by cases e; rfl
  | .o j :: as, k + 1, i, e => agD_r (as := as) (k := k) e
  | .r r :: as, k + 1, i, e => agD_r (as := as) (k := k) e
theorem agD_at {as : List Ag} {k : Nat} {s : Sl} (e : (agD δ as)[k]? = some s) : (∃ i, as[k]? = some (.o i) ∧ s = δ[i]?.getD .un) ∨ ∃ r, as[k]? = some (.r r) ∧ s = .d r.as := by
  cases q : as[k]? with
  | none =>
    have := List.getElem?_eq_none_iff.mp q
    have h2 := (List.getElem?_eq_some_iff.mp e).1
    rw [agD_len] at h2
    omega
  | some a =>
    cases a with
    | o i => exact .inl ⟨i, rfl, Option.some.inj (e.symm.trans (agD_o q))⟩
    | r r => exact .inr ⟨r, rfl, Option.some.inj (e.symm.trans (agD_r q))⟩
theorem agI_mem : ∀ {as : List Ag} {i : Nat}, i ∈ agI as → ∃ k : Nat, as[k]? = some (Ag.o i)
  | [], i, h => by cases h
  | .o j :: as, i, h => by
    rcases List.mem_cons.mp h with rfl | h
    · exact ⟨0, rfl⟩
    · obtain ⟨k, q⟩ := agI_mem h
      exact ⟨k + 1, q⟩
  | .r r :: as, i, h => by
    obtain ⟨k, q⟩ := agI_mem (as := as) h
    exact ⟨k + 1, q⟩
theorem agI_of : ∀ {as : List Ag} {k i : Nat}, as[k]? = some (.o i) → i ∈ agI as
  | [], k, i, e => by simp at e
  | .o j :: as, 0, i, e => by cases e; exact List.mem_cons_self
  | .r r :: as, 0, i, e => by cases e
  | .o j :: as, k + 1, i, e => List.mem_cons_of_mem _ (agI_of (as := as) (k := k) e)
  | .r r :: as, k + 1, i, e => agI_of (as := as) (k := k) e
theorem agI_uni : ∀ {as : List Ag} {k l i : Nat}, (agI as).Nodup → as[k]? = some (.o i) → as[l]? = some (.o i) → k = l
  | [], k, l, i, _, e, _ => by simp at e
  | .o j :: as, 0, 0, i, _, _, _ => rfl
  | .o j :: as, 0, l + 1, i, n, e1, e2 => by cases e1; exact absurd (agI_of (as := as) (k := l) e2) (List.nodup_cons.mp n).1
  | .o j :: as, k + 1, 0, i, n, e1, e2 => by cases e2; exact absurd (agI_of (as := as) (k := k) e1) (List.nodup_cons.mp n).1
  | .o j :: as, k + 1, l + 1, i, n, e1, e2 => congrArg (· + 1) (agI_uni (as := as) (List.nodup_cons.mp n).2 e1 e2)
  | .r r :: as, 0, _, i, _, e, _ => by cases e
  | .r r :: as, k + 1, 0, i, _, _, e => by cases e
  | .r r :: as, k + 1, l + 1, i, n, e1, e2 => congrArg (· + 1) (agI_uni (as := as) n e1 e2)
theorem wbk_len : ∀ {as : List Ag} {δc δ : Dl}, (wbk as δc δ).length = δ.length
  | [], δc, δ => by cases δc <;> rfl
  | .o i :: as, s :: δc, δ => by rw [wbk, wbk_len, List.length_set]
  | .r _ :: as, _ :: δc, δ => by rw [wbk, wbk_len]
  | .o i :: as, [], δ => rfl
  | .r _ :: as, [], δ => rfl
theorem wbk_no : ∀ {as : List Ag} {δc δ : Dl} {i : Nat}, i ∉ agI as → (wbk as δc δ)[i]? = δ[i]?
  | [], δc, δ, i, _ => by cases δc <;> rfl
  | .o j :: as, s :: δc, δ, i, h => by
    rw [wbk, wbk_no fun z => h (List.mem_cons_of_mem _ z), List.getElem?_set_ne fun z => h (by rw [agI, z]; exact List.mem_cons_self)]
  | .r _ :: as, _ :: δc, δ, i, h => by rw [wbk, wbk_no (as := as) h]
  | .o i :: as, [], δ, _, _ => rfl
  | .r _ :: as, [], δ, _, _ => rfl
theorem wbk_at : ∀ {as : List Ag} {δc δ : Dl} {k i : Nat}, (agI as).Nodup → δc.length = as.length → as[k]? = some (.o i) → i < δ.length → (wbk as δc δ)[i]? = δc[k]?
  | [], δc, δ, k, i, _, _, e, _ => by simp at e
  | .o j :: as, s :: δc, δ, 0, i, n, l, e, h => by
    cases e
    rw [wbk, wbk_no (List.nodup_cons.mp n).1, List.getElem?_set_self h]
    rfl
  | .o j :: as, s :: δc, δ, k + 1, i, n, l, e, h => by
    rw [wbk, wbk_at (as := as) (k := k) (List.nodup_cons.mp n).2 (by simpa using l) e (by rw [List.length_set]; exact h)]
    rfl
  | .r r :: as, s :: δc, δ, 0, i, n, l, e, h => by cases e
  | .r r :: as, s :: δc, δ, k + 1, i, n, l, e, h => by
    rw [wbk, wbk_at (as := as) (k := k) n (by simpa using l) e h]
    rfl
  | .o j :: as, [], δ, k, i, n, l, e, h => by simp at l
  | .r r :: as, [], δ, k, i, n, l, e, h => by simp at l
def agOwn (δ : Dl) (as : List Ag) : Bool := (agI as).all fun i => ownB δ[i]?
theorem agOwn_at {as : List Ag} (h : agOwn δ as = true) {k i : Nat} (e : as[k]? = some (.o i)) : (∃ xs, δ[i]? = some (.o xs)) ∨ ∃ o, δ[i]? = some (.s o) := by
  have := List.all_eq_true.mp h i (agI_of e)
  cases q : δ[i]? with
  | none => rw [q] at this; cases this
  | some s =>
    rw [q] at this
    cases s <;> first | exact .inl ⟨_, rfl⟩ | exact .inr ⟨_, rfl⟩ | cases this
theorem rep_ag (R0 : Rep K O δ σ H) (R : Rep K O δ1 σ H1) {vs : List V} {as : List Ag} (ok : AgsOk K O σ δ1 H H1 vs as) (n : agNo as = true) (nd : (agI as).Nodup) (own : agOwn δ1 as = true) : Rep K O (agD δ1 as) (vs.map some) H1 := by
  have atV : ∀ {k i : Nat}, as[k]? = some (.o i) → (vs.map some)[k]? = σ[i]? := fun {k i} e => by
    obtain ⟨v, q1, q2⟩ := ok.at_ e
    rw [List.getElem?_map, q1, q2]; rfl
  have frO : ∀ {k : Nat} {xs : List PyData}, (agD δ1 as)[k]? = some (.o xs) → ∃ i, as[k]? = some (.o i) ∧ δ1[i]? = some (.o xs) := fun {k xs} e => by
    rcases agD_at e with ⟨i, q, z⟩ | ⟨r, q, z⟩
    · refine ⟨i, q, ?_⟩
      cases w : δ1[i]? with
      | none => rw [w] at z; cases z
      | some s => rw [w] at z; exact congrArg some z.symm
    · cases z
  have frS : ∀ {k : Nat} {o : Ob}, (agD δ1 as)[k]? = some (.s o) → ∃ i, as[k]? = some (.o i) ∧ δ1[i]? = some (.s o) := fun {k o} e => by
    rcases agD_at e with ⟨i, q, z⟩ | ⟨r, q, z⟩
    · refine ⟨i, q, ?_⟩
      cases w : δ1[i]? with
      | none => rw [w] at z; cases z
      | some s => rw [w] at z; exact congrArg some z.symm
    · cases z
  have noD : ∀ {k : Nat} {s : Sl}, (agD δ1 as)[k]? = some s → noMk s = false → ∃ o, s = .s o := fun {k s} e m => by
    rcases agD_at e with ⟨i, q, z⟩ | ⟨r, q, z⟩
    · rcases agOwn_at own q with ⟨xs, w⟩ | ⟨o, w⟩
      · rw [w] at z; subst z; cases m
      · rw [w] at z; exact ⟨o, z⟩
    · subst z; cases m
  refine ⟨by rw [agD_len, List.length_map, ok.len], fun k x e => ?_, fun k xs e => ?_, fun k l xs ys a e1 e2 e3 e4 => ?_, R.occ, ⟨fun k kvs e => ?_, fun k l ks ls a e => ?_, fun k ks e => ?_, fun k o e => ?_, fun k l o o' a e1 e2 m1 m2 => ?_, fun k l o xs a e1 e2 e3 => ?_⟩⟩
  · rcases agD_at e with ⟨i, q, z⟩ | ⟨r, q, z⟩
    · rcases agOwn_at own q with ⟨xs, w⟩ | ⟨o, w⟩ <;> (rw [w] at z; cases z)
    · cases z
      obtain ⟨v, q1, q2⟩ := ok.dat R0 R n q
      exact ⟨v, by rw [List.getElem?_map, q1]; rfl, q2⟩
  · obtain ⟨i, q, w⟩ := frO e
    rw [atV q]
    exact R.lst i xs w
  · obtain ⟨i, q1, w1⟩ := frO e1
    obtain ⟨j, q2, w2⟩ := frO e2
    rw [atV q1] at e3
    rw [atV q2] at e4
    have : i = j := R.inj i j xs ys a w1 w2 e3 e4
    subst this
    exact agI_uni nd q1 q2
  · obtain ⟨o, z⟩ := noD e rfl
    cases z
  · obtain ⟨o, z⟩ := noD e rfl
    cases z
  · obtain ⟨o, z⟩ := noD e rfl
    cases z
  · obtain ⟨i, q, w⟩ := frS e
    rw [atV q]
    exact R.ex.s i o w
  · obtain ⟨i, q1, w1⟩ := frS e1
    obtain ⟨j, q2, w2⟩ := frS e2
    have : i = j := R.ex.ss i j o o' a w1 w2 m1 m2
    subst this
    exact agI_uni nd q1 q2
  · obtain ⟨i, q1, w1⟩ := frS e1
    obtain ⟨j, q2, w2⟩ := frO e2
    rw [atV q2] at e3
    exact R.ex.sj i j o xs a w1 w2 e3
theorem after_ag (R0 : Rep K O δ σ H) (R : Rep K O δ1 σ H1) {vs : List V} {as : List Ag} (ok : AgsOk K O σ δ1 H H1 vs as) (nd : (agI as).Nodup) (own : agOwn δ1 as = true) {δc : Dl} {O2 : Addr → Prop} (sub : ∀ a, O a → O2 a)
    (same : Same (hid H1 O) (hid H2 O2)) (fr : ∀ a, O a → ¬ Own (agD δ1 as) (vs.map some) a → H2 a = H1 a) (ow : ∀ (i : Nat), (∃ xs, δc[i]? = some (Sl.o xs)) ↔ (∃ xs, (agD δ1 as)[i]? = some (Sl.o xs))) (da : ∀ (i : Nat) (x : PyData), δc[i]? = some (Sl.d x) ↔ (agD δ1 as)[i]? = some (Sl.d x))
    (dc : ∀ (i : Nat) s', noMk s' = false → δc[i]? = some s' → ∃ s, (agD δ1 as)[i]? = some s ∧ s.like s') (R2 : Rep K O2 δc (vs.map some) H2) :
    (∀ a, O a → ¬ Own δ1 σ a → H2 a = H1 a) ∧ (∀ (i : Nat), (∃ xs, (wbk as δc δ1)[i]? = some (Sl.o xs)) ↔ (∃ xs, δ1[i]? = some (Sl.o xs))) ∧ (∀ (i : Nat) (x : PyData), (wbk as δc δ1)[i]? = some (Sl.d x) ↔ δ1[i]? = some (Sl.d x)) ∧
      (∀ (i : Nat) s', noMk s' = false → (wbk as δc δ1)[i]? = some s' → ∃ s, δ1[i]? = some s ∧ s.like s') ∧ Rep K O2 (wbk as δc δ1) σ H2 := by
  have atV : ∀ {k i : Nat}, as[k]? = some (.o i) → (vs.map some)[k]? = σ[i]? := fun {k i} e => by
    obtain ⟨v, q1, q2⟩ := ok.at_ e
    rw [List.getElem?_map, q1, q2]; rfl
  have ll : δc.length = as.length := by rw [R2.len, List.length_map, ok.len]
  have lt : ∀ {k i : Nat}, as[k]? = some (.o i) → i < δ1.length := fun {k i} e => by
    rcases agOwn_at own e with ⟨xs, w⟩ | ⟨o, w⟩ <;> exact (List.getElem?_eq_some_iff.mp w).1
  have dAt : ∀ {k i : Nat}, as[k]? = some (.o i) → (agD δ1 as)[k]? = δ1[i]? := fun {k i} e => by
    rw [agD_o e]
    rcases agOwn_at own e with ⟨xs, w⟩ | ⟨o, w⟩ <;> (rw [w]; rfl)
  -- a slot behind the call
  have ways : ∀ (i : Nat), (∃ k : Nat, as[k]? = some (Ag.o i) ∧ (wbk as δc δ1)[i]? = δc[k]?) ∨ (i ∉ agI as ∧ (wbk as δc δ1)[i]? = δ1[i]?) := fun i => by
    by_cases h : i ∈ agI as
    · obtain ⟨k, q⟩ := agI_mem h
      exact .inl ⟨k, q, wbk_at nd ll q (lt q)⟩
    · exact .inr ⟨h, wbk_no h⟩
  have back : ∀ a, Own (agD δ1 as) (vs.map some) a → Own δ1 σ a := fun a z => by
    rcases z with ⟨k, xs, e1, e2⟩ | ⟨k, o, e1, e2⟩
    · rcases agD_at e1 with ⟨i, q, z⟩ | ⟨r, q, z⟩
      · rw [atV q] at e2
        exact .inl ⟨i, xs, by rw [← dAt q]; exact e1, e2⟩
      · cases z
    · rcases agD_at e1 with ⟨i, q, z⟩ | ⟨r, q, z⟩
      · exact .inr ⟨i, o, by rw [← dAt q]; exact e1, e2⟩
      · cases z
  -- what is not handed over stands
  have frL : ∀ {i : Nat} {xs : List PyData} {a : Addr}, i ∉ agI as → δ1[i]? = some (.o xs) → σ[i]? = some (some (.ref a)) → H2 a = H1 a := fun {i xs a} h e ea => by
    obtain ⟨a', us, q1, oa, _⟩ := R.lst i xs e
    rw [ea] at q1; cases q1
    refine fr a oa fun z => ?_
    rcases z with ⟨k, ys, e1, e2⟩ | ⟨k, o, e1, e2⟩
    · rcases agD_at e1 with ⟨j, q, z⟩ | ⟨r, q, z⟩
      · rw [atV q] at e2
        rw [dAt q] at e1
        exact h (by rw [R.inj i j xs ys a e e1 ea e2]; exact agI_of q)
      · cases z
    · rcases agD_at e1 with ⟨j, q, z⟩ | ⟨r, q, z⟩
      · rw [dAt q] at e1
        exact R.ex.sj j i o xs a e1 e ea e2
      · cases z
  have frS : ∀ {i : Nat} {o : Ob} {a : Addr}, i ∉ agI as → δ1[i]? = some (.s o) → a ∈ o.ads → H2 a = H1 a := fun {i o a} h e m => by
    refine fr a ((R.ex.s i o e).2.o m).1 fun z => ?_
    rcases z with ⟨k, ys, e1, e2⟩ | ⟨k, o', e1, e2⟩
    · rcases agD_at e1 with ⟨j, q, z⟩ | ⟨r, q, z⟩
      · rw [atV q] at e2
        rw [dAt q] at e1
        exact R.ex.sj i j o ys a e e1 e2 m
      · cases z
    · rcases agD_at e1 with ⟨j, q, z⟩ | ⟨r, q, z⟩
      · rw [dAt q] at e1
        exact h (by rw [R.ex.ss i j o o' a e e1 m e2]; exact agI_of q)
      · cases z
  have frM : ∀ {i : Nat} {kvs : List (List Int × PyData)} {a : Addr}, δ1[i]? = some (.m kvs) → σ[i]? = some (some (.ref a)) → H2 a = H1 a := fun {i kvs a} e ea => by
    obtain ⟨a', us, q1, oa, q2, _⟩ := R.ex.m i kvs e
    rw [ea] at q1; cases q1
    refine fr a oa fun z => ?_
    rcases back a z with ⟨j, ys, e1, e2⟩ | z
    · obtain ⟨a', vs', w1, _, w2, _⟩ := R.lst j ys e1
      rw [e2] at w1; cases w1
      rw [q2] at w2; cases w2
    · rcases (R.ex.oS z).2 with ⟨_, _, _, w⟩ | ⟨_, w⟩ <;> (rw [q2] at w; cases w)
  have toO : ∀ {i : Nat} {xs : List PyData}, (wbk as δc δ1)[i]? = some (.o xs) → ∃ ys, δ1[i]? = some (.o ys) := fun {i xs} e => by
    rcases ways i with ⟨k, q, w⟩ | ⟨h, w⟩
    · rw [w] at e
      obtain ⟨ys, z⟩ := (ow k).mp ⟨xs, e⟩
      rw [dAt q] at z
      exact ⟨ys, z⟩
    · rw [w] at e; exact ⟨xs, e⟩
  have toK : ∀ (i : Nat) s', noMk s' = false → (wbk as δc δ1)[i]? = some s' → ∃ s, δ1[i]? = some s ∧ s.like s' := fun i s' m e => by
    rcases ways i with ⟨k, q, w⟩ | ⟨h, w⟩
    · rw [w] at e
      obtain ⟨s, z1, z2⟩ := dc k s' m e
      rw [dAt q] at z1
      exact ⟨s, z1, z2⟩
    · rw [w] at e; exact ⟨s', e, s'.like_refl⟩
  have toS : ∀ {i : Nat} {o' : Ob}, (wbk as δc δ1)[i]? = some (.s o') → ∃ o, δ1[i]? = some (.s o) ∧ o'.ads = o.ads := fun {i o'} e => by
    obtain ⟨s, q, l⟩ := toK i _ rfl e
    obtain ⟨z, rfl, w⟩ := Sl.like_s l
    exact ⟨z, q, w⟩
  refine ⟨fun a oa no => fr a oa fun z => no (back a z), fun i => ?_, fun i x => ?_, toK, by rw [wbk_len]; exact R.len, fun i x e => ?_, fun i xs e => ?_, fun i j xs ys a e1 e2 e3 e4 => ?_, R2.occ, ⟨fun i kvs e => ?_, fun i j ks ls a e1 e2 e3 e4 => ?_, fun i ks e => ?_, fun i o e => ?_, fun i j o o' a e1 e2 m1 m2 => ?_, fun i j o xs a e1 e2 e3 m => ?_⟩⟩
  · rcases ways i with ⟨k, q, w⟩ | ⟨h, w⟩
    · rw [w, ← dAt q]; exact ow k
    · rw [w]
  · rcases ways i with ⟨k, q, w⟩ | ⟨h, w⟩
    · rw [w, ← dAt q]; exact da k x
    · rw [w]
  · rcases ways i with ⟨k, q, w⟩ | ⟨h, w⟩
    · rw [w] at e
      rw [← atV q]
      exact R2.dat k x e
    · rw [w] at e
      obtain ⟨v, q1, q2⟩ := R.dat i x e
      exact ⟨v, q1, Dp.up q2 same⟩
  · rcases ways i with ⟨k, q, w⟩ | ⟨h, w⟩
    · rw [w] at e
      rw [← atV q]
      exact R2.lst k xs e
    · rw [w] at e
      obtain ⟨a, us, q1, oa, q2, q3⟩ := R.lst i xs e
      exact ⟨a, us, q1, sub a oa, (frL h e q1).trans q2, DpAll.up q3 same⟩
  · obtain ⟨xs', w1⟩ := toO e1
    obtain ⟨ys', w2⟩ := toO e2
    exact R.inj i j xs' ys' a w1 w2 e3 e4
  · obtain ⟨s, q, l⟩ := toK i _ rfl e
    rw [Sl.like_e l fun o z => nomatch z] at q
    obtain ⟨a, us, q1, oa, q2, q3⟩ := R.ex.m i kvs q
    exact ⟨a, us, q1, sub a oa, (frM q q1).trans q2, KvOk.up same q3⟩
  · obtain ⟨s, q, l⟩ := toK i _ rfl e1
    rw [Sl.like_e l fun o z => nomatch z] at q
    obtain ⟨s', q', l'⟩ := toK j _ rfl e2
    rw [Sl.like_e l' fun o z => nomatch z] at q'
    exact R.ex.i i j ks ls a q q' e3 e4
  · obtain ⟨s, q, l⟩ := toK i _ rfl e
    rw [Sl.like_e l fun o z => nomatch z] at q
    obtain ⟨b, q1, q2⟩ := R.ex.k i ks q
    exact ⟨b, q1, same _ _ q2⟩
  · rcases ways i with ⟨k, q, w⟩ | ⟨h, w⟩
    · rw [w] at e
      rw [← atV q]
      exact R2.ex.s k o e
    · rw [w] at e
      obtain ⟨q1, q2⟩ := R.ex.s i o e
      exact ⟨q1, q2.over same (fun a m => sub a (q2.o m).1) fun a m => frS h e m⟩
  · obtain ⟨z, w1, q1⟩ := toS e1
    obtain ⟨z', w2, q2⟩ := toS e2
    exact R.ex.ss i j z z' a w1 w2 (by rw [← q1]; exact m1) (by rw [← q2]; exact m2)
  · obtain ⟨z, w1, q1⟩ := toS e1
    obtain ⟨ys, w2⟩ := toO e2
    exact R.ex.sj i j z ys a w1 w2 e3 (by rw [← q1]; exact m)
end
end Dw
namespace Dw
open PySem PySem.Spec PyProof.Rows L2
def FnRG (P : Program) (w : World) (K : PySem.W.Frag) (mg : Str → Option Value) (base : Heap) (CX : CXT) (k : Nat) (f : Addr) (sp : Sp) : Prop :=
  ∀ (A : Around) (outer : List Env) (s : Shared) (H : Hp) (us : List Value) (vs : List V) (Q : VK) (E : XK), A.guards = some [] → Room k A → Env0 P w K mg base A outer s H → Vals vs us → sp vs H Q E →
    codeAny (model P w) A (.call (.ref f) ⟨us, []⟩) (CR CX outer P w H s Q E) s
theorem FnRG.mono {P : Program} {w : World} {K : PySem.W.Frag} {mg : Str → Option Value} {base : Heap} {CX : CXT} {j k : Nat} {f : Addr} {sp : Sp} (F : FnRG P w K mg base CX j f sp) (h : j ≤ k) : FnRG P w K mg base CX k f sp :=
  fun A outer s H us vs Q E g hr => F A outer s H us vs Q E g (hr.mono h)
theorem FnRG.imp {P : Program} {w : World} {K : PySem.W.Frag} {mg : Str → Option Value} {base : Heap} {CX : CXT} {k : Nat} {f : Addr} {sp sp' : Sp} (F : FnRG P w K mg base CX k f sp) (h : ∀ vs H Q E, sp' vs H Q E → sp vs H Q E) : FnRG P w K mg base CX k f sp' :=
  fun A outer s H us vs Q E g hr e0 r hs => F A outer s H us vs Q E g hr e0 r (h _ _ _ _ hs)
section
variable {X : Cx} {pins : List (Addr × Obj)} {σ : L2.St} {H : Hp} {s : Shared} {k : Nat} {f : Addr} {sp : Sp} {E : XK} {Q : VK} {us : List Value} {vs : List V}
end
section
variable {X : Cx} {k i : Nat} {m y : Str} {e b : Expr} {es : List Expr} {t : TA} {te : TE} {p pos apos py : Pos}
end
end Dw
namespace Dw
open PySem PySem.Spec PyProof.Rows L2
def putV (f : Str) (v : Fv) : List (Str × Fv) → List (Str × Fv)
  | [] => [(f, v)]
  | (g, x) :: r => if g = f then (g, v) :: r else (g, x) :: putV f v r
abbrev nsAt (K : PySem.W.Frag) (n : Str) (C : Addr) : Prop := PySem.W.nsIn K mainGlobals n = some (some (.ref C))
section
variable {K : PySem.W.Frag} {O O2 : Addr → Prop} {δ δ1 : Dl} {σ : L2.St} {H H1 H2 : Hp}
theorem fs_len : ∀ {us : List (Str × V)} {fs : List (Str × Fv)}, FsOk K O H us fs → us.length = fs.length
  | [], [], _ => rfl
  | _ :: us, _ :: fs, ⟨_, _, h⟩ => by rw [List.length_cons, List.length_cons, fs_len h]
  | [], _ :: _, h => h.elim
  | _ :: _, [], h => h.elim
theorem fs_look {f : Str} : ∀ {us : List (Str × V)} {fs : List (Str × Fv)}, FsOk K O H us fs → (fs.lookup f = none ∧ us.lookup f = none) ∨ ∃ v w, fs.lookup f = some w ∧ us.lookup f = some v ∧ FvOk K O H v w
  | [], [], _ => .inl ⟨rfl, rfl⟩
  | (n, u) :: us, (m, w) :: fs, ⟨h1, h2, h3⟩ => by
    have h1 : n = m := h1
    subst h1
    rw [List.lookup_cons, List.lookup_cons]
    cases q : (f == n) with
    | true => exact .inr ⟨u, w, rfl, rfl, h2⟩
    | false => exact fs_look h3
  | [], _ :: _, h => h.elim
  | _ :: _, [], h => h.elim
theorem fs_none {f : Str} {us : List (Str × V)} {fs : List (Str × Fv)} (h : FsOk K O H us fs) (e : fs.lookup f = none) : us.lookup f = none := by
  rcases fs_look (f := f) h with ⟨_, q⟩ | ⟨v, w, q, _⟩
  · exact q
  · rw [e] at q; cases q
theorem fs_some {f : Str} {w : Fv} {us : List (Str × V)} {fs : List (Str × Fv)} (h : FsOk K O H us fs) (e : fs.lookup f = some w) : ∃ v, us.lookup f = some v ∧ FvOk K O H v w := by
  rcases fs_look (f := f) h with ⟨q, _⟩ | ⟨v, w', q, q2, q3⟩
  · rw [e] at q; cases q
  · rw [e] at q; cases q; exact ⟨v, q2, q3⟩
theorem fs_put {f : Str} {v : V} {w : Fv} (h : FvOk K O H v w) : ∀ {us : List (Str × V)} {fs : List (Str × Fv)}, FsOk K O H us fs → FsOk K O H (putF f v us) (putV f w fs)
  | [], [], _ => ⟨rfl, h, trivial⟩
  | (n, u) :: us, (m, x) :: fs, ⟨h1, h2, h3⟩ => by
    have h1 : n = m := h1
    subst h1
    unfold putF putV
    by_cases q : n = f
    · rw [if_pos q, if_pos q]; exact ⟨rfl, h, h3⟩
    · rw [if_neg q, if_neg q]; exact ⟨rfl, h2, fs_put h h3⟩
  | [], _ :: _, h => h.elim
  | _ :: _, [], h => h.elim
theorem ads_put {f : Str} {x : PyData} : ∀ {fs : List (Str × Fv)}, (∀ p xs, fs.lookup f ≠ some (.l p xs)) → adsF (putV f (.d x) fs) = adsF fs
  | [], _ => rfl
  | (m, y) :: fs, h => by
    unfold putV
    by_cases q : m = f
    · rw [if_pos q]
      cases y with
      | d y => rfl
      | l p xs => exact absurd (by rw [List.lookup_cons, q, beq_self_eq_true]) (h p xs)
    · rw [if_neg q]
      have q' : (f == m) = false := beq_eq_false_iff_ne.mpr fun z => q z.symm
      have ih := ads_put (f := f) (x := x) (fs := fs) fun p xs z => h p xs (by rw [List.lookup_cons, q']; exact z)
      cases y with
      | d y => exact ih
      | l p xs => exact congrArg (p :: ·) ih
theorem ads_new {f : Str} {p : Nat} {ys : List PyData} : ∀ {fs : List (Str × Fv)}, (∀ p xs, fs.lookup f ≠ some (.l p xs)) → (adsF (putV f (.l p ys) fs)).Perm (p :: adsF fs)
  | [], _ => List.Perm.refl _
  | (m, y) :: fs, h => by
    unfold putV
    by_cases q : m = f
    · rw [if_pos q]
      cases y with
      | d y => exact List.Perm.refl _
      | l p xs => exact absurd (by rw [List.lookup_cons, q, beq_self_eq_true]) (h p xs)
    · rw [if_neg q]
      have q' : (f == m) = false := beq_eq_false_iff_ne.mpr fun z => q z.symm
      have ih := ads_new (f := f) (p := p) (ys := ys) (fs := fs) fun p xs z => h p xs (by rw [List.lookup_cons, q']; exact z)
      cases y with
      | d y => exact ih
      | l r xs => exact (ih.cons r).trans (List.Perm.swap _ _ _)
theorem rep_setS2 {i : Nat} {o o' : Ob} (R : Rep K O δ σ H) (e : δ[i]? = some (.s o)) (ea : o'.a = o.a) (sub : ∀ a, O a → O2 a) (same : Same (hid H O) (hid H2 O2)) (fr : ∀ a, O a → a ∉ o.ads → H2 a = H a) (occ : ∀ a, O2 a → ∃ u, H2 a = some u) (ob : ObAt K O2 H2 o')
    (ads : ∀ a, a ∈ o'.ads → a ∈ o.ads ∨ ((∀ (j : Nat) ys, δ[j]? = some (Sl.o ys) → σ[j]? = some (some (V.ref a)) → False) ∧ ∀ (j : Nat) u, δ[j]? = some (Sl.s u) → a ∈ u.ads → False)) : Rep K O2 (δ.set i (.s o')) σ H2 := by
  have hi : i < δ.length := (List.getElem?_eq_some_iff.mp e).1
  have ways : ∀ {j : Nat} {s : Sl}, (δ.set i (.s o'))[j]? = some s → (j = i ∧ s = .s o') ∨ (j ≠ i ∧ δ[j]? = some s) := fun {j s} q => by
    rcases set_ways q with ⟨h, _, z⟩ | ⟨h, z⟩
    · exact .inl ⟨h.symm, z⟩
    · exact .inr ⟨fun z => h z.symm, z⟩
  have nl : ∀ {j : Nat} {xs : List PyData} {a : Addr}, δ[j]? = some (.o xs) → σ[j]? = some (some (.ref a)) → a ∉ o.ads := fun {j xs a} q1 q2 => R.ex.sj i j o xs a e q1 q2
  have own : ∀ {a : Addr}, O a → H a ≠ none := fun {a} oa z => by
    obtain ⟨u, q⟩ := R.occ a oa
    rw [z] at q; cases q
  refine ⟨by rw [List.length_set]; exact R.len, fun j x q => ?_, fun j xs q => ?_, fun j k xs ys a q1 q2 q3 q4 => ?_, occ, ⟨fun j kvs q => ?_, fun j k ks ls a q1 q2 q3 q4 => ?_, fun j ks q => ?_, fun j u q => ?_, fun j k u u' a q1 q2 m1 m2 => ?_, fun j k u xs a q1 q2 q3 m => ?_⟩⟩
  · rcases ways q with ⟨_, z⟩ | ⟨_, z⟩
    · cases z
    · obtain ⟨v, w1, w2⟩ := R.dat j x z
      exact ⟨v, w1, Dp.up w2 same⟩
  · rcases ways q with ⟨_, z⟩ | ⟨_, z⟩
    · cases z
    · obtain ⟨a, us, w1, w2, w3, w4⟩ := R.lst j xs z
      exact ⟨a, us, w1, sub a w2, (fr a w2 (nl z w1)).trans w3, DpAll.up w4 same⟩
  · rcases ways q1 with ⟨_, z⟩ | ⟨_, z⟩
    · cases z
    · rcases ways q2 with ⟨_, y⟩ | ⟨_, y⟩
      · cases y
      · exact R.inj j k xs ys a z y q3 q4
  · rcases ways q with ⟨_, z⟩ | ⟨_, z⟩
    · cases z
    · obtain ⟨a, us, w1, w2, w3, w4⟩ := R.ex.m j kvs z
      refine ⟨a, us, w1, sub a w2, (fr a w2 fun m => ?_).trans w3, KvOk.up same w4⟩
      rcases ((R.ex.s i o e).2.o m).2 with ⟨_, _, y⟩ | ⟨_, y⟩ <;> (rw [w3] at y; cases y)
  · rcases ways q1 with ⟨_, z⟩ | ⟨_, z⟩
    · cases z
    · rcases ways q2 with ⟨_, y⟩ | ⟨_, y⟩
      · cases y
      · exact R.ex.i j k ks ls a z y q3 q4
  · rcases ways q with ⟨_, z⟩ | ⟨_, z⟩
    · cases z
    · obtain ⟨b, w1, w2⟩ := R.ex.k j ks z
      exact ⟨b, w1, same _ _ w2⟩
  · rcases ways q with ⟨h, z⟩ | ⟨h, z⟩
    · cases z
      rw [h]
      exact ⟨by rw [ea]; exact (R.ex.s i o e).1, ob⟩
    · obtain ⟨w1, w2⟩ := R.ex.s j u z
      exact ⟨w1, w2.over same (fun a m => sub a (w2.o m).1) fun a m => fr a (w2.o m).1 fun m2 => h (R.ex.ss j i u o a z e m m2)⟩
  · have key : ∀ {j k : Nat} {u : Ob} {a : Addr}, j ≠ i → δ[j]? = some (.s u) → a ∈ o'.ads → a ∈ u.ads → False := fun {j k u a} h z m1 m2 => by
      rcases ads a m1 with w | w
      · exact h (R.ex.ss j i u o a z e m2 w)
      · exact w.2 j u z m2
    rcases ways q1 with ⟨h, z⟩ | ⟨h, z⟩
    · cases z
      rcases ways q2 with ⟨h', y⟩ | ⟨h', y⟩
      · rw [h, h']
      · exact (key (k := 0) h' y m1 m2).elim
    · rcases ways q2 with ⟨h', y⟩ | ⟨h', y⟩
      · cases y
        exact (key (k := 0) h z m2 m1).elim
      · exact R.ex.ss j k u u' a z y m1 m2
  · rcases ways q2 with ⟨_, y⟩ | ⟨_, y⟩
    · cases y
    · rcases ways q1 with ⟨h, z⟩ | ⟨h, z⟩
      · cases z
        rcases ads a m with w | w
        · exact nl y q3 w
        · exact w.1 k xs y q3
      · exact R.ex.sj j k u xs a z y q3 m
theorem rep_setS {i : Nat} {o o' : Ob} (R : Rep K O δ σ H) (e : δ[i]? = some (.s o)) (ea : o'.a = o.a) (sub : ∀ a, O a → O2 a) (same : Same (hid H O) (hid H2 O2)) (fr : ∀ a, O a → a ∉ o.ads → H2 a = H a) (occ : ∀ a, O2 a → ∃ u, H2 a = some u) (ob : ObAt K O2 H2 o')
    (ads : ∀ a, a ∈ o'.ads → a ∈ o.ads ∨ H a = none) : Rep K O2 (δ.set i (.s o')) σ H2 := by
  have own : ∀ {a : Addr}, O a → H a ≠ none := fun {a} oa z => by
    obtain ⟨u, q⟩ := R.occ a oa
    rw [z] at q; cases q
  refine rep_setS2 R e ea sub same fr occ ob fun a m => (ads a m).imp id fun w => ⟨fun j ys z1 z2 => ?_, fun j u z1 z2 => own ((R.ex.s j u z1).2.o z2).1 w⟩
  obtain ⟨a', us, w1, w2, _⟩ := R.lst j ys z1
  rw [z2] at w1; cases w1
  exact own w2 w
theorem tr_setS {i : Nat} {o o' : Ob} (R : Rep K O δ σ H) (e : δ[i]? = some (.s o)) (sub : ∀ a, O a → O2 a) (new : ∀ a, O2 a → O a ∨ H a = none) (same : Same (hid H O) (hid H2 O2)) (fr : ∀ a, O a → a ∉ o.ads → H2 a = H a)
    (ads : ∀ a, a ∈ o'.ads → a ∈ o.ads ∨ H a = none) : Tr O O2 δ (δ.set i (.s o')) σ σ H H2 := by
  refine ⟨fun a z => .inl (sub a z), same, new, fun a oa no _ => fr a oa fun m => no (.inr ⟨i, o, e, m⟩), fun xs a q1 q2 => ?_, fun a ⟨j, xs, q1, q2⟩ => ?_, fun a ⟨j, xs, q1, q2⟩ => ?_, fun a ⟨j, u, q1, q2⟩ => ?_⟩
  · by_cases h : i = 0
    · rw [h] at e; rw [e] at q1; cases q1
    · rw [List.getElem?_set_ne h]; exact ⟨⟨xs, q1⟩, q2⟩
  · rcases set_ways q1 with ⟨_, _, z⟩ | ⟨_, z⟩
    · cases z
    · exact .inl ⟨j, xs, z, q2⟩
  · rcases set_ways q1 with ⟨_, _, z⟩ | ⟨_, z⟩
    · cases z
    · exact .inl ⟨j, xs, z, q2⟩
  · rcases set_ways q1 with ⟨_, _, z⟩ | ⟨_, z⟩
    · cases z
      exact (ads a q2).imp (fun m => ⟨i, o, e, m⟩) id
    · exact .inl ⟨j, u, z, q2⟩
end
end Dw
namespace Dw
open PySem PySem.Spec PyProof.Rows L2
structure ClsF (K : PySem.W.Frag) (ns fl : List Str) : Prop where
  at_ : ∀ n ∈ ns, ∃ C, nsAt K n C ∧ Cls K C ∧ ∀ f ∈ fl, NoAttr K C f
theorem ob_at {K : PySem.W.Frag} {O : Addr → Prop} {δ : Dl} {σ : L2.St} {H : Hp} {i : Nat} {o : Ob} (R : Rep K O δ σ H) (e : δ[i]? = some (.s o)) {C : Addr} (hC : nsAt K o.n C) : ∃ us, σ[i]? = some (some (.ref o.a)) ∧ H o.a = some (.ins C o.dx us) ∧ FsOk K O H us o.fs := by
  obtain ⟨q1, q2⟩ := R.ex.s i o e
  obtain ⟨C', us, w1, w2, w3⟩ := q2.at_
  have : C' = C := by
    have z := (show nsAt K o.n C' from w1).symm.trans hC
    cases z; rfl
  subst this
  exact ⟨us, q1, w2, w3⟩
section
variable {X : Cx} {e b value : Expr} {es : List Expr} {we wb : WE} {pos pos' p py apos cpos : Pos} {y f m : Str} {ns fl : List Str} {k : Nat} {S : WE}
structure ClsN (K : PySem.W.Frag) (ns : List Str) (f : Str) : Prop where
  at_ : ∀ n ∈ ns, ∃ C u, nsAt K n C ∧ Cls K C ∧ Con K C f (.str n) u
def wPutF (ns : List Str) (i : Nat) (f : Str) (w : WE) : WS := fun P δ => w δ fun r δ1 => match δ1[i]? with
  | some (.s o) => (o.n ∈ ns ∧ o.fs.length < 1000 ∧ ∀ p xs, o.fs.lookup f ≠ some (.l p xs)) ∧ match r with
    | .d x => P.nx (δ1.set i (.s { o with fs := putV f (.d x) o.fs }))
    | .l xs => ∀ p, p ∉ o.ads → P.nx (δ1.set i (.s { o with fs := putV f (.l p xs) o.fs }))
    | .b _ _ => False
  | _ => False
theorem ds_putF (i : Nat) (cf : ClsF X.K ns fl) (hf : f ∈ fl) (he : DE X e we) (hN : X.N[i]? = some y := by rfl) (hv : Vis X.env.scope y := by first | exact Or.inl rfl | exact Or.inr (Or.inl rfl) | exact Or.inr (Or.inr rfl)) (hy : (y == ("__debug__" : Str)) = false := by decide) (hcd : (y == ("__classdict__" : Str)) = false := by decide)
    (hs : swapsWith e (some (.Attribute (.Name y py) f pos')) pos.line X.env = pure false := by rfl) : DS X (.Assign [.Attribute (.Name y py) f pos'] e pos) (wPutF ns i f we) := by
  refine ps_weak (ps_fld (pe_var hN hv hy hcd) he hs) fun D σ H ⟨O, δ, P, R0, w, E⟩ => ?_
  refine ⟨O, δ, _, R0, w, fun r δ1 v H1 w1 s1 R1 k1 => ?_⟩
  split at w1
  · rename_i o eo
    obtain ⟨⟨hn, hl, hno⟩, w1⟩ := w1
    obtain ⟨C, hC, hc, hna⟩ := cf.at_ _ hn
    obtain ⟨us, q1, q2, q3⟩ := ob_at R1 eo hC
    have obA := (R1.ex.s i o eo).2
    have oa : O o.a := obA.oa
    have ne : ∀ a, a ∉ o.ads → a ≠ o.a := fun a h z => h (by rw [z]; exact List.mem_cons_self)
    refine ⟨.ref o.a, q1, o.a, C, o.dx, us, rfl, q2, hc, hna f hf, by rw [fs_len q3]; exact hl, ?_⟩
    cases r with
    | b j xs => exact w1.elim
    | d x =>
      have same : Same (hid H1 O) (hid (upd H1 o.a (.ins C o.dx (putF f v us))) O) := by rw [hid_upd oa]; exact Same.refl _
      have fr : ∀ a, O a → a ∉ o.ads → upd H1 o.a (.ins C o.dx (putF f v us)) a = H1 a := fun a _ h => upd_ne (ne a h)
      have ads' : ({ o with fs := putV f (.d x) o.fs } : Ob).ads = o.ads := congrArg (o.a :: ·) (ads_put hno)
      have kv : FvOk X.K O H1 v (.d x) := k1
      have nd := obA.nd
      have up : FsOk X.K O (upd H1 o.a (.ins C o.dx (putF f v us))) (putF f v us) (putV f (.d x) o.fs) := by
        refine FsOk.over same (fs_put kv q3) (fun a m => ?_) fun a m => upd_ne fun z => ?_
        · rw [ads_put hno] at m
          exact (obA.o (List.mem_cons_of_mem _ m)).1
        · rw [ads_put hno] at m
          exact (List.nodup_cons.mp nd).1 (z ▸ m)
      have occ : ∀ a, O a → ∃ u, upd H1 o.a (.ins C o.dx (putF f v us)) a = some u := fun a z => by
        by_cases q : a = o.a
        · exact ⟨_, by rw [q, upd_same]⟩
        · rw [upd_ne q]; exact R1.occ a z
      have ad : ∀ a, a ∈ ({ o with fs := putV f (.d x) o.fs } : Ob).ads → a ∈ o.ads ∨ H1 a = none := fun a m => .inl (by rw [← ads']; exact m)
      have tr := tr_setS (o' := { o with fs := putV f (.d x) o.fs }) R1 eo (O2 := O) (fun _ z => z) (fun _ z => .inl z) same fr ad
      have R2 := rep_setS (o' := { o with fs := putV f (.d x) o.fs }) R1 eo rfl (O2 := O) (fun _ z => z) same fr occ ⟨⟨C, _, hC, upd_same, up⟩, oa, by rw [ads']; exact nd⟩ ad
      exact E.nx _ _ _ _ w1 (s1.tr.trans R0 R1 tr) R2
    | l xs =>
      obtain ⟨q, vs, rfl, nq, eq, ha, hr⟩ := k1
      have nO : ¬ O q := R0.fresh nq
      have nqa : q ≠ o.a := fun z => nO (z ▸ oa)
      have nqm : q ∉ o.ads := fun m => nO (obA.o m).1
      have sm0 : Same (hid H1 O) (hid H1 fun a => O a ∨ a = q) ∨ True := .inr trivial
      have tr0 : Tr O (fun a => O a ∨ a = q) δ δ1 σ σ H H1 := ⟨fun a z => .inl (.inl z), same_hide s1.same nq, fun a z => z.imp id fun w => by rw [w]; exact nq, fun a oa no _ => s1.frame a oa no, fun xs a e1 e2 => ⟨(s1.own 0).mpr ⟨xs, e1⟩, e2⟩, fun _ z => .inl (s1.ownL z), fun _ ⟨i, kvs, e1, e2⟩ => .inl ⟨i, kvs, s1.dm i kvs e1, e2⟩, fun _ z => .inl (s1.ownS z)⟩
      obtain ⟨us', q1', q2', q3'⟩ := ob_at hr eo hC
      rw [q2] at q2'
      cases q2'
      have oa2 : (fun a => O a ∨ a = q) o.a := .inl oa
      have same : Same (hid H1 fun a => O a ∨ a = q) (hid (upd H1 o.a (.ins C o.dx (putF f (.ref q) us))) fun a => O a ∨ a = q) := by rw [hid_upd oa2]; exact Same.refl _
      have fr : ∀ a, (O a ∨ a = q) → a ∉ o.ads → upd H1 o.a (.ins C o.dx (putF f (.ref q) us)) a = H1 a := fun a _ h => upd_ne (ne a h)
      have pm := ads_new (f := f) (p := q) (ys := xs) hno
      have kv : FvOk X.K (fun a => O a ∨ a = q) H1 (.ref q) (.l q xs) := ⟨rfl, .inr rfl, vs, eq, ha⟩
      have nd := obA.nd
      have nd' : ({ o with fs := putV f (.l q xs) o.fs } : Ob).ads.Nodup := by
        show (o.a :: adsF (putV f (.l q xs) o.fs)).Nodup
        rw [List.nodup_cons]
        refine ⟨fun m => ?_, pm.nodup_iff.mpr (List.nodup_cons.mpr ⟨fun m => nqm (List.mem_cons_of_mem _ m), (List.nodup_cons.mp nd).2⟩)⟩
        rcases List.mem_cons.mp (pm.mem_iff.mp m) with z | z
        · exact nqa z.symm
        · exact (List.nodup_cons.mp nd).1 z
      have up : FsOk X.K (fun a => O a ∨ a = q) (upd H1 o.a (.ins C o.dx (putF f (.ref q) us))) (putF f (.ref q) us) (putV f (.l q xs) o.fs) := by
        refine FsOk.over same (fs_put kv q3') (fun a m => ?_) fun a m => upd_ne fun z => ?_
        · rcases List.mem_cons.mp (pm.mem_iff.mp m) with w | w
          · exact .inr w
          · exact .inl (obA.o (List.mem_cons_of_mem _ w)).1
        · exact (List.nodup_cons.mp nd').1 (z ▸ m)
      have occ : ∀ a, (O a ∨ a = q) → ∃ u, upd H1 o.a (.ins C o.dx (putF f (.ref q) us)) a = some u := fun a z => by
        by_cases w : a = o.a
        · exact ⟨_, by rw [w, upd_same]⟩
        · rw [upd_ne w]; exact hr.occ a z
      have ads0 : ∀ a, a ∈ ({ o with fs := putV f (.l q xs) o.fs } : Ob).ads → a ∈ o.ads ∨ a = q := fun a m => by
        rcases List.mem_cons.mp m with w | w
        · exact .inl (by rw [w]; exact List.mem_cons_self)
        · rcases List.mem_cons.mp (pm.mem_iff.mp w) with z | z
          · exact .inr z
          · exact .inl (List.mem_cons_of_mem _ z)
      -- q stands ahead of the store already: told from the start's side
      have R2 : Rep X.K (fun a => O a ∨ a = q) (δ1.set i (.s { o with fs := putV f (.l q xs) o.fs })) σ (upd H1 o.a (.ins C o.dx (putF f (.ref q) us))) := by
        refine rep_setS2 (o' := { o with fs := putV f (.l q xs) o.fs }) hr eo rfl (fun _ z => z) same fr occ ⟨⟨C, _, hC, upd_same, up⟩, oa2, nd'⟩ fun a m => ?_
        rcases ads0 a m with w | w
        · exact .inl w
        · refine .inr ⟨fun j ys z1 z2 => ?_, fun j u z1 z2 => ?_⟩
          · obtain ⟨a', _, y1, y2, _⟩ := R1.lst j ys z1
            rw [z2] at y1; cases y1
            exact nO (w ▸ y2)
          · exact nO (w ▸ ((R1.ex.s j u z1).2.o z2).1)
      have tr : Tr O (fun a => O a ∨ a = q) δ (δ1.set i (.s { o with fs := putV f (.l q xs) o.fs })) σ σ H (upd H1 o.a (.ins C o.dx (putF f (.ref q) us))) := by
        refine ⟨fun a z => .inl (.inl z), tr0.same.trans same, tr0.new, fun a z no nm => ?_, fun ys a z1 z2 => ?_, fun a ⟨j, ys, z1, z2⟩ => ?_, fun a ⟨j, ys, z1, z2⟩ => ?_, fun a ⟨j, u, z1, z2⟩ => ?_⟩
        · have : a ∉ o.ads := fun m => no (.inr (s1.ownS ⟨i, o, eo, m⟩))
          rw [upd_ne (ne a this)]
          exact s1.frame a z no
        · obtain ⟨⟨zs, y1⟩, y2⟩ := tr0.keep ys a z1 z2
          by_cases h : i = 0
          · rw [h] at eo; rw [eo] at y1; cases y1
          · rw [List.getElem?_set_ne h]; exact ⟨⟨zs, y1⟩, y2⟩
        · rcases set_ways z1 with ⟨_, _, z⟩ | ⟨_, z⟩
          · cases z
          · exact tr0.own a ⟨j, ys, z, z2⟩
        · rcases set_ways z1 with ⟨_, _, z⟩ | ⟨_, z⟩
          · cases z
          · exact tr0.ownM a ⟨j, ys, z, z2⟩
        · rcases set_ways z1 with ⟨_, _, z⟩ | ⟨_, z⟩
          · cases z
            rcases ads0 a z2 with w | w
            · exact tr0.ownS a ⟨i, o, eo, w⟩
            · exact .inr (by rw [w]; exact nq)
          · exact tr0.ownS a ⟨j, u, z, z2⟩
      exact E.nx _ _ _ _ (w1 q nqm) tr R2
  · exact w1.elim
end
end Dw
namespace Dw
open PySem PySem.Spec PyProof.Rows L2
section
variable {X : Cx} {e b value : Expr} {es : List Expr} {we wb : WE} {pos pos' p py apos cpos fpos : Pos} {y f m : Str} {ns fl : List Str} {k : Nat} {S : WE}
end
end Dw
namespace Dw
open PySem PySem.Spec PyProof.Rows L2
def WG1.mk (u : WG1) : WG1 := u
def gNo : WG1 := fun δ P => P [] δ
def gOwn (i : Nat) (u : WG1) : WG1 := fun δ P => ownB δ[i]? = true ∧ u δ fun as δ1 => P (.o i :: as) δ1
section
variable {X : Cx} {e : Expr} {es : List Expr} {we : WE} {u : WG1} {y : Str} {py : Pos}
end
def agOk (δ : Dl) (as : List Ag) : Prop := agNo as = true ∧ (agI as).Nodup ∧ agOwn δ as = true
def endG (as : List Ag) (δ1 : Dl) (P : Rv → Dl → Prop) : Rv → Dl → Prop := fun r δc => match r with
  | .b _ _ => False
  | r => P r (wbk as δc δ1)
theorem ag_end {K : PySem.W.Frag} {O : Addr → Prop} {δ δ1 δc : Dl} {σ : L2.St} {H H1 H' : Hp} {as : List Ag} {vs : List V} {v : V} {r : Rv} {P : Rv → Dl → Prop} {Q : VK} (R0 : Rep K O δ σ H) (s1 : Stp O δ δ1 σ H H1) (R1 : Rep K O δ1 σ H1) (ok : AgsOk K O σ δ1 H H1 vs as) (c : agOk δ1 as)
    (g : ∀ r δ' v H', P r δ' → Stp O δ δ' σ H H' → Rep K O δ' σ H' → RvOk K O σ δ' H H' v r → Q v H') (w2 : endG as δ1 P r δc) (s2 : Stp O (agD δ1 as) δc (vs.map some) H1 H') (R2 : Rep K O δc (vs.map some) H') (k2 : RvOk K O (vs.map some) δc H1 H' v r) : Q v H' := by
  obtain ⟨c1, c2, c3⟩ := c
  obtain ⟨a1, a2, a3, a4, a5⟩ := after_ag R0 R1 ok c2 c3 (fun _ z => z) s2.same s2.frame s2.own s2.dat s2.dct R2
  have st : Stp O δ1 (wbk as δc δ1) σ H1 H' := ⟨s2.same, a1, a2, a3, a4⟩
  cases r with
  | b i xs => exact w2.elim
  | d x => exact g _ _ _ _ w2 (s1.trans st) a5 k2
  | l xs =>
    obtain ⟨p, us, e1, n, e, ha, hr⟩ := k2
    obtain ⟨_, _, _, _, b5⟩ := after_ag R0 R1 ok c2 c3 (O2 := fun a => O a ∨ a = p) (fun _ z => .inl z) (same_hide s2.same n) s2.frame s2.own s2.dat s2.dct hr
    exact g _ _ _ _ w2 (s1.trans st) a5 (RvOk.back R0 R1 s1 ⟨p, us, e1, n, e, ha, b5⟩)
def wCallG (S : WE) (u : WG1) : WE := fun δ P => u δ fun as δ1 => agOk δ1 as ∧ S (agD δ1 as) (endG as δ1 P)
def onN (n : Str) (S : WE) : WE := fun δ P => (match δ with | .s o :: _ => o.n = n | _ => False) ∧ S δ P
structure MF (P : Program) (w : World) (K : PySem.W.Frag) (mg : Str → Option Value) (base : Heap) (k : Nat) (ns : List Str) (m : Str) (S : WE) : Prop where
  at_ : ∀ n ∈ ns, ∃ C f, nsAt K n C ∧ Cls K C ∧ Meth K C m f ∧ FnRG P w K mg base CX0 k f (spOf K (onN n S))
section
variable {X : Cx} {e b : Expr} {es : List Expr} {u : WG1} {we : WE} {x y m : Str} {p pos py apos : Pos} {k : Nat} {S : WE} {ns : List Str}
structure MP (P : Program) (w : World) (K : PySem.W.Frag) (mg : Str → Option Value) (base : Heap) (k : Nat) (ns : List Str) (m : Str) (S : WE) : Prop where
  at_ : ∀ n ∈ ns, ∃ C p g, nsAt K n C ∧ Cls K C ∧ PropOf K C m p g ∧ FnRG P w K mg base CX0 k g (spOf K (onN n S))
structure MS (P : Program) (w : World) (K : PySem.W.Frag) (mg : Str → Option Value) (base : Heap) (k : Nat) (ns : List Str) (m : Str) (S : WE) : Prop where
  at_ : ∀ n ∈ ns, ∃ C f, nsAt K n C ∧ PySem.W.findIn K (.ref C) m = some (some (.ref f)) ∧ PySem.W.isFn K (.ref f) = true ∧ FnRG P w K mg base CX0 k f (spOf K (onN n S))
end
end Dw
namespace Dw
open PySem PySem.Spec PyProof.Rows L2
def outS : Sl → Sl → Sl
  | .o _, .o ys => .o ys
  | .s _, .s o => .s o
  | s, _ => s
def outG : Dl → Dl → Dl
  | s :: δ, t :: δ' => outS s t :: outG δ δ'
  | δ, _ => δ
def keptS : Sl → Sl → Prop
  | .s o, .s o' => o'.a = o.a ∧ o'.ads = o.ads
  | .s _, _ => False
  | _, _ => True
def keptG : Dl → Dl → Prop
  | s :: δ, t :: δ' => keptS s t ∧ keptG δ δ'
  | [], _ => True
  | _, _ => False
def endsG (δa : Dl) (P : Rv → Dl → Prop) : DEnds where
  nx := fun δ' => keptG δa δ' ∧ P (.d .none) (outG δa δ')
  rt := fun r δ' => keptG δa δ' ∧ match r with
    | .b i xs => i ≠ 0 ∧ P (.l xs) (outG δa δ')
    | .d x => P (.d x) (outG δa δ')
    | .l xs => P (.l xs) (outG δa δ')
  bk := fun _ => False
  ct := fun _ => False
def ArgOkG (n : Nat) (δ : Dl) : Prop := δ.length = n ∧ (∀ (i : Nat) (xs : List PyData), δ[i]? = some (Sl.o xs) → i = 0) ∧ ∀ (i : Nat) (s : Sl), δ[i]? = some s → noMk s = true ∨ ∃ o, s = .s o
theorem outG_len : ∀ {δ δ' : Dl}, (outG δ δ').length = δ.length
  | [], _ => rfl
  | s :: δ, [] => rfl
  | s :: δ, t :: δ' => by rw [outG, List.length_cons, List.length_cons, outG_len]
theorem outG_at : ∀ {δ δ' : Dl} {i : Nat} {s t : Sl}, δ[i]? = some s → δ'[i]? = some t → (outG δ δ')[i]? = some (outS s t)
  | [], _, i, s, t, h, _ => by simp at h
  | s :: δ, [], i, _, t, _, h => by simp at h
  | s :: δ, t :: δ', 0, _, _, h, g => by cases h; cases g; rfl
  | s :: δ, t :: δ', i + 1, _, _, h, g => outG_at (δ := δ) (i := i) h g
theorem keptG_at : ∀ {δ δ' : Dl} {i : Nat} {s : Sl}, keptG δ δ' → δ[i]? = some s → ∃ t, δ'[i]? = some t ∧ keptS s t
  | [], _, i, s, _, h => by simp at h
  | s :: δ, [], i, _, k, _ => k.elim
  | s :: δ, t :: δ', 0, _, k, h => by cases h; exact ⟨t, rfl, k.1⟩
  | s :: δ, t :: δ', i + 1, _, k, h => keptG_at (δ := δ) (i := i) k.2 h
theorem start_okG {K : PySem.W.Frag} {O : Addr → Prop} {δ : Dl} {n : Nat} {σa : L2.St} {G : Hp} {Pd : Rv → Dl → Prop} {Q : VK} (R : Rep K O δ σa G) (ao : ArgOkG δ.length δ)
    (f : ∀ r δ' v H', Pd r δ' → Stp O δ δ' σa G H' → Rep K O δ' σa H' → RvOk K O σa δ' G H' v r → Q v H') :
    Rep K O (δ ++ List.replicate n Sl.un) (σa ++ List.replicate n none) G ∧ EOk K O (δ ++ List.replicate n Sl.un) (σa ++ List.replicate n none) G (endsG δ Pd) { nx := fun _ G' => Q .non G', rt := Q } ∧
      (∀ a, Own (δ ++ List.replicate n Sl.un) (σa ++ List.replicate n none) a → Own δ σa a) ∧ ∀ a, ¬ OwnM (δ ++ List.replicate n Sl.un) (σa ++ List.replicate n none) a := by
  obtain ⟨_, h0, hnm⟩ := ao
  have atL : ∀ (i : Nat) (s : Sl), s ≠ .un → (δ ++ List.replicate n Sl.un)[i]? = some s → i < δ.length ∧ δ[i]? = some s := fun i s ns e => by
    rw [get_app] at e
    by_cases h : i < δ.length
    · rw [if_pos h] at e; exact ⟨h, e⟩
    · rw [if_neg h, List.getElem?_replicate] at e
      split at e
      · exact absurd (Option.some.inj e).symm ns
      · cases e
  have atR : ∀ (i : Nat), i < δ.length → (σa ++ List.replicate n none)[i]? = σa[i]? := fun i h => List.getElem?_append_left (by rw [← R.len]; exact h)
  have atD : ∀ (i : Nat) (s : Sl), δ[i]? = some s → (δ ++ List.replicate n Sl.un)[i]? = some s := fun i s e => by
    rw [List.getElem?_append_left (List.getElem?_eq_some_iff.mp e).1]; exact e
  have noM : ∀ (i : Nat) (s : Sl), noMk s = false → (∀ o, s ≠ .s o) → δ[i]? ≠ some s := fun i s m no e => by
    rcases hnm i s e with z | ⟨o, z⟩
    · rw [m] at z; cases z
    · exact no o z
  have R2 : Rep K O (δ ++ List.replicate n Sl.un) (σa ++ List.replicate n none) G := by
    refine ⟨by rw [List.length_append, List.length_append, List.length_replicate, List.length_replicate, R.len], fun i x e => ?_, fun i xs e => ?_, fun i j xs zs a e1 e2 e3 e4 => ?_, R.occ, ⟨fun i kvs e => ?_, fun i j ks ls a e => ?_, fun i ks e => ?_, fun i o e => ?_, fun i j o o' a e1 e2 => ?_, fun i j o xs a e1 e2 e3 => ?_⟩⟩
    · obtain ⟨h, e⟩ := atL i (.d x) (by intro z; cases z) e
      rw [atR i h]; exact R.dat i x e
    · obtain ⟨h, e⟩ := atL i (.o xs) (by intro z; cases z) e
      rw [atR i h]; exact R.lst i xs e
    · obtain ⟨h, e1⟩ := atL i (.o xs) (by intro z; cases z) e1
      obtain ⟨h', e2⟩ := atL j (.o zs) (by intro z; cases z) e2
      rw [atR i h] at e3
      rw [atR j h'] at e4
      exact R.inj i j xs zs a e1 e2 e3 e4
    · exact absurd (atL i _ (by intro z; cases z) e).2 (noM i _ rfl (by intro o z; cases z))
    · exact absurd (atL i _ (by intro z; cases z) e).2 (noM i _ rfl (by intro o z; cases z))
    · exact absurd (atL i _ (by intro z; cases z) e).2 (noM i _ rfl (by intro o z; cases z))
    · obtain ⟨h, e⟩ := atL i (.s o) (by intro z; cases z) e
      rw [atR i h]; exact R.ex.s i o e
    · exact R.ex.ss i j o o' a (atL i _ (by intro z; cases z) e1).2 (atL j _ (by intro z; cases z) e2).2
    · obtain ⟨h', e2⟩ := atL j (.o xs) (by intro z; cases z) e2
      rw [atR j h'] at e3
      exact R.ex.sj i j o xs a (atL i _ (by intro z; cases z) e1).2 e2 e3
  have ownL : ∀ a, Own (δ ++ List.replicate n Sl.un) (σa ++ List.replicate n none) a → Own δ σa a := fun a z => by
    rcases z with ⟨i, xs, e1, e2⟩ | ⟨i, o, e1, e2⟩
    · obtain ⟨h, e1⟩ := atL i (.o xs) (by intro z; cases z) e1
      rw [atR i h] at e2
      exact .inl ⟨i, xs, e1, e2⟩
    · exact .inr ⟨i, o, (atL i _ (by intro z; cases z) e1).2, e2⟩
  have noM' : ∀ a, ¬ OwnM (δ ++ List.replicate n Sl.un) (σa ++ List.replicate n none) a := fun a ⟨i, kvs, e1, _⟩ => noM i _ rfl (by intro o z; cases z) (atL i _ (by intro z; cases z) e1).2
  have fsub : ∀ O' δ' σ' G', Tr O O' (δ ++ List.replicate n Sl.un) δ' (σa ++ List.replicate n none) σ' G G' → ∀ a, O a → O' a := fun O' δ' σ' G' tr a z =>
    (tr.sub a z).elim id fun ⟨⟨i, xs, ni, e1, _⟩, _⟩ => absurd (h0 i xs (atL i (.o xs) (by intro z; cases z) e1).2) ni
  -- the parameters behind the body
  have outp : ∀ O' δ' σ' G', Tr O O' (δ ++ List.replicate n Sl.un) δ' (σa ++ List.replicate n none) σ' G G' → ∀ O3 : Addr → Prop, Rep K O3 δ' σ' G' → keptG δ δ' → ∀ O2 : Addr → Prop, (∀ a, O a → O2 a) → Same (hid G O) (hid G' O2) → (∀ a, O2 a → ∃ o, G' a = some o) →
      Same (hid G' O3) (hid G' O2) →
      Rep K O2 (outG δ δ') σa G' ∧ (∀ (i : Nat), (∃ xs, (outG δ δ')[i]? = some (Sl.o xs)) ↔ (∃ xs, δ[i]? = some (Sl.o xs))) ∧ (∀ (i : Nat) (x : PyData), (outG δ δ')[i]? = some (Sl.d x) ↔ δ[i]? = some (Sl.d x)) ∧ (∀ (i : Nat) s', noMk s' = false → (outG δ δ')[i]? = some s' → ∃ s, δ[i]? = some s ∧ s.like s') := by
    intro O' δ' σ' G' tr O3 R' kp O2 sub same occ up
    have both : ∀ {i : Nat} {u : Sl}, (outG δ δ')[i]? = some u → ∃ s t, δ[i]? = some s ∧ δ'[i]? = some t ∧ keptS s t ∧ u = outS s t := fun {i u} e => by
      have hi : i < δ.length := by rw [← outG_len (δ := δ) (δ' := δ')]; exact (List.getElem?_eq_some_iff.mp e).1
      have es : δ[i]? = some δ[i] := List.getElem?_eq_getElem hi
      obtain ⟨t, q1, q2⟩ := keptG_at kp es
      exact ⟨_, t, es, q1, q2, Option.some.inj (e.symm.trans (outG_at es q1))⟩
    have toO : ∀ {i : Nat} {xs : List PyData}, (outG δ δ')[i]? = some (.o xs) → i = 0 ∧ (∃ ys, δ[i]? = some (.o ys)) ∧ δ'[i]? = some (.o xs) := fun {i xs} e => by
      obtain ⟨s, t, q1, q2, _, q3⟩ := both e
      cases s with
      | o ys =>
        have hi := h0 i ys q1
        refine ⟨hi, ⟨ys, q1⟩, ?_⟩
        subst hi
        obtain ⟨a, _, ea, _⟩ := R.lst 0 ys q1
        obtain ⟨⟨zs, k1⟩, _⟩ := tr.keep ys a (atD 0 _ q1) (by rw [atR 0 (List.getElem?_eq_some_iff.mp q1).1]; exact ea)
        rw [q2] at k1; cases k1
        have : xs = zs := by cases q3; rfl
        rw [this]; exact q2
      | s o => cases t <;> cases q3
      | un => cases q3
      | d x => cases q3
      | m x => cases q3
      | k x => cases q3
    have toS : ∀ {i : Nat} {o' : Ob}, (outG δ δ')[i]? = some (.s o') → ∃ o, δ[i]? = some (.s o) ∧ δ'[i]? = some (.s o') ∧ o'.a = o.a ∧ o'.ads = o.ads := fun {i o'} e => by
      obtain ⟨s, t, q1, q2, q4, q3⟩ := both e
      cases s with
      | s o =>
        cases t with
        | s u => cases q3; exact ⟨o, q1, q2, q4.1, q4.2⟩
        | _ => exact q4.elim
      | o ys => cases t <;> cases q3
      | un => cases q3
      | d x => cases q3
      | m x => cases q3
      | k x => cases q3
    have toD : ∀ {i : Nat} {x : PyData}, (outG δ δ')[i]? = some (.d x) → δ[i]? = some (.d x) := fun {i x} e => by
      obtain ⟨s, t, q1, q2, q4, q3⟩ := both e
      cases s with
      | d y => cases q3; exact q1
      | s o => cases t <;> cases q3
      | o ys => cases t <;> cases q3
      | un => cases q3
      | m x => cases q3
      | k x => cases q3
    have noMO : ∀ {i : Nat} {s' : Sl}, noMk s' = false → (outG δ δ')[i]? = some s' → ∃ o, s' = .s o := fun {i s'} m e => by
      obtain ⟨s, t, q1, q2, q4, q3⟩ := both e
      rcases hnm i s q1 with z | ⟨o, z⟩
      · exfalso
        cases s with
        | un => rw [q3] at m; cases m
        | d x => rw [q3] at m; cases m
        | o xs => rw [q3] at m; cases t <;> cases m
        | m x => cases z
        | k x => cases z
        | s x => cases z
      · subst z
        cases t with
        | s u => exact ⟨u, q3⟩
        | _ => exact q4.elim
    have samea : ∀ {i : Nat}, i < δ.length → (σa ++ List.replicate n none)[i]? = σa[i]? := fun {i} h => atR i h
    refine ⟨⟨by rw [outG_len]; exact R.len, fun i x e => ?_, fun i xs e => ?_, fun i j xs zs a e1 e2 _ _ => ?_, occ, ⟨fun i kvs e => ?_, fun i j ks ls a e => ?_, fun i ks e => ?_, fun i o' e => ?_, fun i j o o' a e1 e2 m1 m2 => ?_, fun i j o xs a e1 e2 e3 m => ?_⟩⟩, fun i => ?_, fun i x => ?_, fun i s' m e => ?_⟩
    · obtain ⟨v, q1, q2⟩ := R.dat i x (toD e)
      exact ⟨v, q1, Dp.up q2 same⟩
    · obtain ⟨hi, ⟨ys, q1⟩, q2⟩ := toO e
      subst hi
      obtain ⟨a, us, ea, oa, _⟩ := R.lst 0 ys q1
      have ea' : (σa ++ List.replicate n none)[0]? = some (some (.ref a)) := by rw [atR 0 (List.getElem?_eq_some_iff.mp q1).1]; exact ea
      obtain ⟨_, k2⟩ := tr.keep ys a (atD 0 _ q1) ea'
      obtain ⟨a', us', w1, _, w3, w4⟩ := R'.lst 0 xs q2
      rw [k2] at w1; cases w1
      exact ⟨a, us', ea, sub a oa, w3, DpAll.up w4 up⟩
    · rw [(toO e1).1, (toO e2).1]
    · obtain ⟨o, z⟩ := noMO rfl e; cases z
    · obtain ⟨o, z⟩ := noMO rfl e; cases z
    · obtain ⟨o, z⟩ := noMO rfl e; cases z
    · obtain ⟨o, q1, q2, q3, q4⟩ := toS e
      obtain ⟨w1, w2⟩ := R.ex.s i o q1
      obtain ⟨_, w4⟩ := R'.ex.s i o' q2
      exact ⟨by rw [q3]; exact w1, w4.less up fun a m => sub a (w2.o (by rw [← q4]; exact m)).1⟩
    · obtain ⟨u, q1, _, _, q4⟩ := toS e1
      obtain ⟨u', q1', _, _, q4'⟩ := toS e2
      exact R.ex.ss i j u u' a q1 q1' (by rw [← q4]; exact m1) (by rw [← q4']; exact m2)
    · obtain ⟨u, q1, _, _, q4⟩ := toS e1
      obtain ⟨_, ⟨ys, q2⟩, _⟩ := toO e2
      exact R.ex.sj i j u ys a q1 q2 e3 (by rw [← q4]; exact m)
    · constructor
      · rintro ⟨xs, e⟩; exact (toO e).2.1
      · rintro ⟨xs, e⟩
        have hi := h0 i xs e
        subst hi
        obtain ⟨a, us, ea, oa, _⟩ := R.lst 0 xs e
        obtain ⟨⟨zs, k1⟩, _⟩ := tr.keep xs a (atD 0 _ e) (by rw [atR 0 (List.getElem?_eq_some_iff.mp e).1]; exact ea)
        exact ⟨zs, outG_at e k1⟩
    · constructor
      · exact toD
      · intro e
        obtain ⟨t, q1, q2⟩ := keptG_at kp e
        exact outG_at e q1
    · obtain ⟨o', z⟩ := noMO m e
      subst z
      obtain ⟨o, q1, _, _, q4⟩ := toS e
      exact ⟨_, q1, q4⟩
  have done : ∀ O' δ' σ' G', Tr O O' (δ ++ List.replicate n Sl.un) δ' (σa ++ List.replicate n none) σ' G G' → Rep K O' δ' σ' G' → keptG δ δ' → Stp O δ (outG δ δ') σa G G' ∧ Rep K O (outG δ δ') σa G' := by
    intro O' δ' σ' G' tr R' kp
    have trs := fsub _ _ _ _ tr
    obtain ⟨r1, r2, r3, r4⟩ := outp O' δ' σ' G' tr O' R' kp O (fun _ z => z) (tr.same.trans (hid_sub trs)) (fun a z => R'.occ a (trs a z)) (hid_sub trs)
    exact ⟨⟨tr.same.trans (hid_sub trs), fun a oa no => tr.frame a oa (fun z => no (ownL a z)) (noM' a), r2, r3, r4⟩, r1⟩
  refine ⟨R2, ⟨fun O' δ' σ' G' p tr R' => ?_, fun O' r δ' σ' v G' p tr R' kr => ?_, fun _ _ _ _ p => p.elim, fun _ _ _ _ p => p.elim⟩, ownL, noM'⟩
  · obtain ⟨kp, p⟩ := p
    obtain ⟨s1, R1⟩ := done O' δ' σ' G' tr R' kp
    exact f _ _ _ _ p s1 R1 .non
  · obtain ⟨kp, p⟩ := p
    obtain ⟨s1, R1⟩ := done O' δ' σ' G' tr R' kp
    cases r with
    | d y => exact f _ _ _ _ p s1 R1 (Dp.up kr (hid_sub (fsub _ _ _ _ tr)))
    | l zs =>
      obtain ⟨q, us, e1, n0, e2, ha, hr⟩ := kr
      have sub : ∀ a, (O a ∨ a = q) → (O' a ∨ a = q) := fun a z => z.imp (fsub _ _ _ _ tr a) id
      refine f _ _ _ _ p s1 R1 ⟨q, us, e1, n0, e2, DpAll.up ha (hid_sub sub), ?_⟩
      exact (outp O' δ' σ' G' tr _ hr kp (fun a => O a ∨ a = q) (fun _ z => .inl z) (same_hide s1.same n0) (fun a z => hr.occ a (sub a z)) (hid_sub sub)).1
    | b i zs =>
      obtain ⟨ni, p⟩ := p
      obtain ⟨e1, e2⟩ := kr
      obtain ⟨a, us, q1, q2, q3, q4⟩ := R'.lst i zs e1
      rw [q1] at e2; cases e2
      have na : G a = none := by
        rcases tr.own a ⟨i, zs, e1, q1⟩ with ⟨j, xs, z1, z2⟩ | z
        · have z1' := atL j (.o xs) (by intro z; cases z) z1
          have hj : j = 0 := h0 j xs z1'.2
          subst hj
          obtain ⟨⟨zs', k1⟩, k2⟩ := tr.keep xs a z1 z2
          exact absurd (R'.inj i 0 zs zs' a e1 k1 q1 k2) ni
        · exact z
      have sub : ∀ b, (O b ∨ b = a) → O' b := fun b z => z.elim (fsub _ _ _ _ tr b) fun w => by rw [w]; exact q2
      refine f _ _ _ _ p s1 R1 ⟨a, us, rfl, na, q3, DpAll.up q4 (hid_sub sub), ?_⟩
      exact (outp O' δ' σ' G' tr O' R' kp (fun b => O b ∨ b = a) (fun _ z => .inl z) (same_hide s1.same na) (fun b z => R'.occ b (sub b z)) (hid_sub sub)).1
end Dw
namespace Dw
open PySem PySem.Spec PyProof.Rows L2
structure SupAt (X : Cx) (body : List Stmt) (i : Nat) (y : Str) (f D : Addr) : Prop where
  lf : ∃ oc od fd osl ar, X.K.lookup f = some ⟨oc, od, .func fd, osl⟩ ∧ (fd.params.posonlyargs ++ fd.params.args).head? = some ar ∧ ar.arg = y
  fn : X.env.func = some f
  code : ∃ cc ccl cdd vs ccs file tf, X.env.code = .ref cc ∧ X.K.lookup cc = some ⟨ccl, cdd, .fields vs, ccs⟩ ∧ vs[2]? = some (.str file tf) ∧ ((X.prog.main.file : Str) == file) = true
  cell : ∃ cc cl cld csl, X.env.cells.lookup ("__class__" : Str) = some cc ∧ X.K.lookup cc = some ⟨cl, cld, .cell (some (.ref D)), csl⟩
  ks : X.env.scope.names.lookup ("super" : Str) = some .globalImplicit
  kc : X.env.scope.names.lookup ("__class__" : Str) = some .free
  top : (X.prog.main.scope.names.lookup ("super" : Str)).isSome = false
  ms : X.mg "super" = none
  kf : X.env.scope.kind = .function
  clsD : ∃ cd, PySem.W.clsIn X.K D = some cd
  hN : X.N[i]? = some y
  hv : X.env.scope.names.lookup y = some .local
  any : PySem.W.nsIn X.K cStatics "thirdparty.any" = some none
structure SupF (K : PySem.W.Frag) (C D : Addr) (m : Str) (g : Addr) : Prop where
  sub : PySem.W.mroIn K C (.ref D) = some true
  at_ : PySem.W.ks_superIn K C D m = some (some (.ref g))
  ty : PySem.W.typeIn K (.ref g) = some (.type "function")
  fi : PySem.W.fnIn K g = true
section
variable {X : Cx} {pins : List (Addr × Obj)} {σ : L2.St} {H : Hp} {s : Shared} {body : List Stmt} {i : Nat} {y m : Str} {f C D g a : Addr} {fs : List (Str × V)}
end
end Dw
namespace Dw
open PySem PySem.Spec PyProof.Rows L2
section
variable {prog : Program} {w : World} {A : Around} {E : Value → Shared → Prop} {h : Heap} {g : Array GenState} {d : Drawn} {t : Nat} {os : OsState}
end
section
variable {X : Cx} {pins : List (Addr × Obj)} {σ : L2.St} {H : Hp} {s : Shared} {body all ss : List Stmt} {i k : Nat} {y m : Str} {f C D g a so : Addr} {fs : List (Str × V)} {e : Expr} {es : List Expr} {t : TA} {p0 p1 apos pos pos' : Pos}
structure PSA (X : Cx) (all : List Stmt) (st : Stmt) (t : TS) : Prop where
  run : ∀ (pins : List (Addr × Obj)) (s : Shared) (σ : L2.St) (H : Hp) (P : Ends), Inv X pins σ H s → t P σ H → _root_.PySem.wpAt (model X.prog X.w) X.A (.func all X.env) (exec st X.env) (SP X pins P) X.xe s
structure PSsA (X : Cx) (all ss : List Stmt) (t : TS) : Prop where
  run : ∀ (pins : List (Addr × Obj)) (s : Shared) (σ : L2.St) (H : Hp) (P : Ends), Inv X pins σ H s → t P σ H → _root_.PySem.wpAt (model X.prog X.w) X.A (.func all X.env) (execs ss X.env) (SP X pins P) X.xe s
end
end Dw
namespace Dw
open PySem PySem.Spec PyProof.Rows L2
structure FunS (K : PySem.W.Frag) (x qual : Str) (st : Stmt) (f c cc : Addr) (fd : FuncData) : Prop where
  ex : ∃ (oc : Value) (od : Option Addr) (kV doc pm : Value) (an : Option Addr) (ct : Value) (osl : Array (Option Value)),
    fd = PySem.W.fnX x qual (defArgs st) (defBody st) (defScope st) [("__class__", cc)] .none kV doc pm an (.ref c) ct ∧ K.lookup f = some ⟨oc, od, .func fd, osl⟩ ∧ PySem.W.codeIn K (.ref c) qual = true
  cell : ∃ cl cld v csl, K.lookup cc = some ⟨cl, cld, .cell v, csl⟩
section
variable {CX : CXT} {P : Program} {w : World} {K : PySem.W.Frag} {mg : Str → Option Value} {base : Heap} {k : Nat} {f c cc : Addr} {x qual : Str} {st : Stmt} {fd : FuncData} {N ps : List Str} {sp : Sp}
theorem bnd_star {pv : Str} {A : Around} {outer : List Env} {s : Shared} {H : Hp} {us : List Value} {ws rest : List V} {E : XK} (hCX : StX.CXUp CX) (e0 : Env0 P w K mg base A outer s H) (r : Vals (ws ++ rest) us) (hl : ws.length = ps.length) (hz : rest.length ≤ sizeLine)
    (hb : ∀ us rest : List Value, us.length = ps.length → bindArgs fd ⟨us ++ rest, []⟩ = (newTuple rest >>= fun t => pure (ps.zip us ++ [(pv, t)]))) :
    StX.Bnd CX P w K mg base fd ⟨us, []⟩ (ps ++ [pv]) A outer s H E fun xs H2 => ∃ p, H p = Option.none ∧ xs = ws ++ [V.ref p] ∧ H2 = upd H p (.tup rest) := by
  intro A' Ex Q' h
  obtain ⟨u1, u2, eu, r1, r2⟩ := StX.vals_split r
  subst eu
  have hn : H s.heap.objs.size = Option.none := e0.hok.fresh (Nat.le_refl _)
  have hl1 : u1.length = ps.length := by rw [← r1.length]; exact hl
  have hl2 : u2.length ≤ sizeLine := by rw [← r2.length]; exact hz
  rw [hb u1 u2 hl1]
  refine wpAny_bind (wpAny_newTuple (wpAny_pure ?_) hl2)
  have new : ObjOk P w (upd H s.heap.objs.size (.tup rest)) (s.heap.push ({ cls := .type "tuple", data := .seq u2.toArray } : Obj)) s.heap.objs.size (.tup rest) := ⟨hz, u2, r2, ⟨_, Heap.get?_push_size _ rfl, rfl, _, rfl⟩⟩
  have un := StX.un_laid (fs := frs outer) (s := s) (o := ({ cls := .type "tuple", data := .seq u2.toArray } : Obj)) (u := .tup rest) hn
  have z := h _ _ (ws ++ [V.ref s.heap.objs.size]) (u1 ++ [Value.ref s.heap.objs.size]) (StX.env0_laid e0 new) un rfl (fun e s' => hCX outer s H _ _ E e s' un (fun b o q => Heap.get?_push_of_some _ q) rfl) (r1.append (.cons rfl .nil))
    (by rw [List.length_append, List.length_append, hl] <;> rfl) ⟨_, hn, rfl, rfl⟩
  rw [List.zip_append hl1.symm] at z
  exact z
end
end Dw
namespace Dw
open PySem PySem.Spec PyProof.Rows L2
section
variable {X : Cx} {all rest : List Stmt} {st : Stmt} {w w' : WS}
end
structure IniTo (K : PySem.W.Frag) (O O' : Addr → Prop) (o o' : Ob) (H H' : Hp) : Prop where
  ea : o'.a = o.a
  sub : ∀ a, O a → O' a
  new : ∀ a, O' a → O a ∨ H a = none
  same : Same (hid H O) (hid H' O')
  fr : ∀ a, O a → a ∉ o.ads → H' a = H a
  occ : ∀ a, O' a → ∃ u, H' a = some u
  ob : ObAt K O' H' o'
  ads : ∀ a, a ∈ o'.ads → a ∈ o.ads ∨ H a = none
abbrev WIn := Ob → List PyData → (Ob → Prop) → Prop
def spIni (K : PySem.W.Frag) (S : WIn) : Sp := fun vs H Q _ => ∃ O o ds P, Rep K O (.s o :: ds.map Sl.d) (vs.map some) H ∧ S o ds P ∧ ∀ O' o' H', P o' → IniTo K O O' o o' H H' → Q .non H'
def endsI (o : Ob) (P : Ob → Prop) : DEnds where
  nx := fun (δ' : Dl) => match δ'[(0 : Nat)]? with
    | some (.s o') => o'.a = o.a ∧ P o'
    | _ => False
  rt := fun _ _ => False
  bk := fun _ => False
  ct := fun _ => False
theorem ini_slots {K : PySem.W.Frag} {O : Addr → Prop} {o : Ob} {ds : List PyData} {n : Nat} {σa : L2.St} {H : Hp} {P : Ob → Prop} {Q : VK} (R : Rep K O (.s o :: ds.map Sl.d) σa H) (f : ∀ O' o' H', P o' → IniTo K O O' o o' H H' → Q .non H') :
    Rep K O (.s o :: ds.map Sl.d ++ List.replicate n Sl.un) (σa ++ List.replicate n none) H ∧ EOk K O (.s o :: ds.map Sl.d ++ List.replicate n Sl.un) (σa ++ List.replicate n none) H (endsI o P) { nx := fun _ G' => Q .non G', rt := Q } := by
  have ao : ArgOkG (Sl.s o :: ds.map Sl.d).length (Sl.s o :: ds.map Sl.d) := by
    refine ⟨rfl, fun i xs e => ?_, fun i s e => ?_⟩
    · cases i with
      | zero => rfl
      | succ i =>
        rw [List.getElem?_cons_succ, List.getElem?_map] at e
        cases q : ds[i]? with
        | none => rw [q] at e; cases e
        | some d => rw [q] at e; cases e
    · cases i with
      | zero => cases e; exact .inr ⟨_, rfl⟩
      | succ i =>
        rw [List.getElem?_cons_succ, List.getElem?_map] at e
        cases q : ds[i]? with
        | none => rw [q] at e; cases e
        | some d => rw [q] at e; cases e; exact .inl rfl
  obtain ⟨R2, _, ow, om⟩ := start_okG (n := n) (Pd := fun _ _ => False) (Q := Q) R ao (fun _ _ _ _ z => z.elim)
  refine ⟨R2, ⟨fun O' δ' σ' H' p tr R' => ?_, fun _ _ _ _ _ _ p => p.elim, fun _ _ _ _ p => p.elim, fun _ _ _ _ p => p.elim⟩⟩
  have ownO : ∀ a, Own (.s o :: ds.map Sl.d ++ List.replicate n Sl.un) (σa ++ List.replicate n none) a → a ∈ o.ads := fun a z => by
    rcases ow a z with ⟨i, xs, e, _⟩ | ⟨i, u, e, m⟩
    · cases i with
      | zero => cases e
      | succ i =>
        rw [List.getElem?_cons_succ, List.getElem?_map] at e
        cases q : ds[i]? with
        | none => rw [q] at e; cases e
        | some d => rw [q] at e; cases e
    · cases i with
      | zero => cases e; exact m
      | succ i => exact absurd ⟨i, u, e, m⟩ no_ownS
  have no1 : ∀ a, ¬ Own1 (.s o :: ds.map Sl.d ++ List.replicate n Sl.un) (σa ++ List.replicate n none) a := fun a ⟨i, xs, ni, e, e2⟩ => by
    rcases ow a (.inl ⟨i, xs, e, e2⟩) with ⟨j, ys, e3, _⟩ | ⟨j, u, e3, m⟩
    · have := ao.2.1 j ys e3
      subst this
      cases e3
    · have hm := ownO a (.inl ⟨i, xs, e, e2⟩)
      exact R2.ex.sj 0 i o xs a rfl e e2 hm
  unfold endsI at p
  dsimp only at p
  split at p
  · rename_i o' eo
    obtain ⟨ea, p⟩ := p
    have sub : ∀ a, O a → O' a := fun a z => (tr.sub a z).elim id fun ⟨w, _⟩ => absurd w (no1 a)
    refine f O' o' H' p ⟨ea, sub, tr.new, tr.same, fun a oa na => tr.frame a oa (fun z => na (ownO a z)) (om a), R'.occ, (R'.ex.s 0 o' eo).2, fun a m => ?_⟩
    rcases tr.ownS a ⟨0, o', eo, m⟩ with z | z
    · exact .inl (ownO a (.inr z))
    · exact .inr z
  · exact p.elim
def spIniA (K : PySem.W.Frag) (S : WIn) : Sp := fun vs H Q _ => ∃ O o ds ws rest rs P, vs = ws ++ rest ∧ Rep K O (.s o :: ds.map Sl.d) (ws.map some) H ∧ DpAll K (hid H O) rest rs ∧ rs.length ≤ 1000 ∧ ds.length = 1 ∧ S o (ds ++ [.tuple rs]) P ∧ ∀ O' o' H', P o' → IniTo K O O' o o' H H' → Q .non H'
theorem ini_star {K : PySem.W.Frag} {S : WIn} {O : Addr → Prop} {o : Ob} {ds rs : List PyData} {ws rest : List V} {H : Hp} {P : Ob → Prop} {Q : VK} {E : XK} {p : Addr} (hp : H p = none) (R : Rep K O (.s o :: ds.map Sl.d) (ws.map some) H) (da : DpAll K (hid H O) rest rs)
    (hs : S o (ds ++ [.tuple rs]) P) (f : ∀ O' o' H', P o' → IniTo K O O' o o' H H' → Q .non H') : spIni K S (ws ++ [V.ref p]) (upd H p (.tup rest)) Q E := by
  have np : ¬ O p := fun z => by
    obtain ⟨u, q⟩ := R.occ p z
    rw [hp] at q; cases q
  have up : ∀ {b : Addr} {u : HO}, H b = some u → upd H p (.tup rest) b = some u := fun {b u} e => by rw [upd_ne (ne_of_none e hp)]; exact e
  have same : Same (hid H O) (hid (upd H p (.tup rest)) O) := fun b u e => by
    obtain ⟨nb, e'⟩ := hid_some e
    rw [hid_no nb]; exact up e'
  have R1 : Rep K O (.s o :: ds.map Sl.d) (ws.map some) (upd H p (.tup rest)) := R.mv same fun a oa => upd_ne fun z => np (z ▸ oa)
  have hl : (Sl.s o :: ds.map Sl.d).length = (ws.map some).length := R1.len
  have R2 : Rep K O (.s o :: (ds ++ [PyData.tuple rs]).map Sl.d) ((ws ++ [V.ref p]).map some) (upd H p (.tup rest)) := by
    have es : Sl.s o :: (ds ++ [PyData.tuple rs]).map Sl.d = (Sl.s o :: ds.map Sl.d) ++ [Sl.d (.tuple rs)] := by rw [List.map_append]; rfl
    rw [es, List.map_append]
    have at_ : ∀ {i : Nat} {s : Sl}, ((Sl.s o :: ds.map Sl.d) ++ [Sl.d (.tuple rs)])[i]? = some s → ((Sl.s o :: ds.map Sl.d)[i]? = some s ∧ i < (ws.map some).length) ∨ (i = (ws.map some).length ∧ s = .d (.tuple rs)) := fun {i s} e => by
      rw [get_app] at e
      by_cases h : i < (Sl.s o :: ds.map Sl.d).length
      · rw [if_pos h] at e; exact .inl ⟨e, by rw [← hl]; exact h⟩
      · rw [if_neg h] at e
        cases q : i - (Sl.s o :: ds.map Sl.d).length with
        | zero => rw [q] at e; cases e; exact .inr ⟨by rw [← hl]; omega, rfl⟩
        | succ j => rw [q] at e; cases e
    have sl : ∀ {i : Nat}, i < (ws.map some).length → (ws.map some ++ [V.ref p].map some)[i]? = (ws.map some)[i]? := fun {i} h => List.getElem?_append_left h
    have noS : ∀ {i : Nat} {s : Sl}, noMk s = false → ((Sl.s o :: ds.map Sl.d) ++ [Sl.d (.tuple rs)])[i]? = some s → (Sl.s o :: ds.map Sl.d)[i]? = some s ∧ i < (ws.map some).length := fun {i s} n e => by
      rcases at_ e with z | ⟨_, z⟩
      · exact z
      · subst z; cases n
    refine ⟨by rw [List.length_append, List.length_append, hl]; rfl, fun i x e => ?_, fun i xs e => ?_, fun i j xs ys a e1 e2 e3 e4 => ?_, R1.occ, ⟨fun i kvs e => ?_, fun i j ks ls a e1 e2 e3 e4 => ?_, fun i ks e => ?_, fun i u e => ?_, fun i j u u' a e1 e2 => ?_, fun i j u xs a e1 e2 e3 => ?_⟩⟩
    · rcases at_ e with ⟨e, h⟩ | ⟨h, z⟩
      · rw [sl h]; exact R1.dat i x e
      · cases z
        subst h
        refine ⟨.ref p, by rw [List.getElem?_append_right (Nat.le_refl _), Nat.sub_self]; rfl, .tup ?_ (DpAll.up da same)⟩
        rw [hid_no np]; exact upd_same
    · rcases at_ e with ⟨e, h⟩ | ⟨h, z⟩
      · rw [sl h]; exact R1.lst i xs e
      · cases z
    · rcases at_ e1 with ⟨e1, h⟩ | ⟨h, z⟩
      · rcases at_ e2 with ⟨e2, h'⟩ | ⟨h', z⟩
        · rw [sl h] at e3; rw [sl h'] at e4
          exact R1.inj i j xs ys a e1 e2 e3 e4
        · cases z
      · cases z
    · obtain ⟨e, h⟩ := noS rfl e; rw [sl h]; exact R1.ex.m i kvs e
    · obtain ⟨e1, h⟩ := noS rfl e1; obtain ⟨e2, h'⟩ := noS rfl e2
      rw [sl h] at e3; rw [sl h'] at e4
      exact R1.ex.i i j ks ls a e1 e2 e3 e4
    · obtain ⟨e, h⟩ := noS rfl e; rw [sl h]; exact R1.ex.k i ks e
    · obtain ⟨e, h⟩ := noS rfl e; rw [sl h]; exact R1.ex.s i u e
    · exact R1.ex.ss i j u u' a (noS rfl e1).1 (noS rfl e2).1
    · rcases at_ e2 with ⟨e2, h⟩ | ⟨h, z⟩
      · rw [sl h] at e3
        exact R1.ex.sj i j u xs a (noS rfl e1).1 e2 e3
      · cases z
  have free : ∀ {a : Addr}, upd H p (.tup rest) a = none → H a = none := fun {a} z => by
    cases q : H a with
    | none => rfl
    | some u => rw [up q] at z; cases z
  refine ⟨O, o, ds ++ [.tuple rs], P, R2, hs, fun O' o' H' po I => f O' o' H' po ⟨I.ea, I.sub, fun a z => (I.new a z).imp id free, same.trans I.same, fun a oa na => ?_, I.occ, I.ob, fun a m => (I.ads a m).imp id free⟩⟩
  rw [I.fr a oa na]
  exact upd_ne fun z => np (z ▸ oa)
end Dw
namespace Dw
open PySem PySem.Spec PyProof.Rows L2
section
variable {P : Program} {w : World} {K : PySem.W.Frag} {mg : Str → Option Value} {base : Heap} {x qual : Str} {st : Stmt} {f c cc : Addr} {fd : FuncData} {N ps : List Str} {pv : Str} {k : Nat} {S : WIn} {wb : WS}
theorem spIniA_split {vs : List V} {H : Hp} {Q : VK} {E : XK} (h : spIniA K S vs H Q E) : ∃ ws rest, vs = ws ++ rest ∧ ws.length = 2 ∧ rest.length ≤ 1000 ∧ ∀ p, H p = none → spIni K S (ws ++ [V.ref p]) (upd H p (.tup rest)) Q E := by
  obtain ⟨O, o, ds, ws, rest, rs, P, e, R, da, hl, h1, hs, f⟩ := h
  refine ⟨ws, rest, e, ?_, by rw [da_len da]; exact hl, fun p hp => ini_star hp R da hs f⟩
  have := R.len
  rw [List.length_cons, List.length_map, List.length_map, h1] at this
  exact this.symm
theorem fnIni (F : Fun K x qual st f fd) (Sc : FnScope N (ps ++ [pv]) (defScope st)) (h2 : ps.length = 2) (hb : ∀ us rest : List Value, us.length = ps.length → bindArgs fd ⟨us ++ rest, []⟩ = (newTuple rest >>= fun t => pure (ps.zip us ++ [(pv, t)])))
    (hS : ∀ o ds P, S o ds P → ds.length = 2 ∧ wb (endsI o P) (.s o :: ds.map Sl.d ++ List.replicate (N.length - 3) Sl.un))
    (hbody : ∀ (cdv : Value) (A : Around) (outer : List Env) (s : Shared) (G : Hp) (E : XK), A.guards = some [] → Room k (A.deeper (envOfC qual (defScope st) s.heap.objs.size f cdv)) → DSs (cxOf CX0 P w K mg base N qual (defScope st) f cdv A outer s G E) (defBody st) wb) :
    FnRG P w K mg base CX0 (k + 1) f (spIniA K S) := by
  intro A outer s H us vs Q E g0 room e0 r pr
  obtain ⟨ws, rest, rfl, hw, hr, pr⟩ := spIniA_split pr
  obtain ⟨oc, od, kV, doc, pm, an, cdv, ct, osl, efd, lk, hcd⟩ := F.ex
  subst efd
  refine StX.run_bnd lk hcd Sc room e0 (bnd_star StX.cxUp_none e0 r (hw.trans h2.symm) (Nat.le_trans hr (by decide)) hb) fun s2 H2 ys ⟨p, hp, e1, e2⟩ hr' => ⟨_, hbody cdv A outer s2 H2 E g0 hr', ?_⟩
  subst e1; subst e2
  obtain ⟨O, o, ds, P, R, hs, f⟩ := pr p hp
  obtain ⟨hl, hw'⟩ := hS o ds P hs
  obtain ⟨R2, En⟩ := ini_slots (n := N.length - 3) R f
  have es : (ws ++ [V.ref p]).map some ++ List.replicate (N.length - 3) none = L2.start N (ws ++ [V.ref p]) := by unfold L2.start; rw [List.length_append, hw]; rfl
  rw [es] at R2 En
  exact ⟨O, _, _, R2, hw', En⟩
end
structure MSup (P : Program) (w : World) (K : PySem.W.Frag) (mg : Str → Option Value) (base : Heap) (k : Nat) (D : Addr) (ns : List Str) (m : Str) (S : WE) : Prop where
  at_ : ∀ n ∈ ns, ∃ C g, nsAt K n C ∧ SupF K C D m g ∧ FnRG P w K mg base CX0 k g (spOf K (onN n S))
structure MSupI (P : Program) (w : World) (K : PySem.W.Frag) (mg : Str → Option Value) (base : Heap) (k : Nat) (D : Addr) (ns : List Str) (S : WIn) : Prop where
  at_ : ∀ n ∈ ns, ∃ C g, nsAt K n C ∧ SupF K C D "__init__" g ∧ FnRG P w K mg base CX0 k g (spIniA K fun o ds P => o.n = n ∧ S o ds P)
section
variable {X : Cx} {all : List Stmt} {e e1 e2 : Expr} {es : List Expr} {u : WG1} {w1 w2 : WE} {m y : Str} {p0 p1 p apos pos pos' : Pos} {k : Nat} {S : WE} {Si : WIn} {ns : List Str} {f D : Addr}
end
end Dw
namespace Dw
open PySem PySem.Spec PyProof.Rows L2
structure NewO (K : PySem.W.Frag) (O O' : Addr → Prop) (H H' : Hp) (o : Ob) : Prop where
  sub : ∀ a, O a → O' a
  new : ∀ a, O' a → O a ∨ H a = none
  same : Same (hid H O) (hid H' O')
  ob : ObAt K O' H' o
  fresh : ∀ a ∈ o.ads, H a = none
abbrev WN := Dl → (Ob → Dl → Prop) → Prop
theorem make_guards {A : Around} {C : Addr} {us : List Value} : (A.under (.builtin "type.__call__" ⟨.ref C :: us, []⟩)).guards = A.guards := by
  first | rfl | simp [Around.under, Code.weight, Code.isCreation, Code.isGuard, Code.isCaller, Code.frames, Code.isFrame, Code.guards, pushGuards, guardIds]
section
variable {X : Cx} {k : Nat} {f C : Addr} {sp : Sp} {x : Str} {e : Expr} {es : List Expr} {t : TA} {p pos : Pos}
theorem run_makeG {pins : List (Addr × Obj)} {σ : L2.St} {H : Hp} {s : Shared} {Q : VK} {us : List Value} {vs : List V} (M : L2.Mk X.K C f) (F : FnRG X.prog X.w X.K X.mg X.base CX0 k f sp) (g0 : X.A.guards = some []) (hr : Room (k + 1) X.A) (I : Inv X pins σ H s) (r : Vals vs us)
    (h : ∀ x dx, H x = Option.none → H dx = Option.none → dx ≠ x → sp (V.ref x :: vs) (upd (upd H dx (.own x)) x (.ins C dx [])) (fun v H2 => v = .non ∧ Q (.ref x) H2) (fun _ _ _ => False)) :
    wpAny (model X.prog X.w) X.A (call (.ref C) us) (EP X pins σ Q) X.xe s := by
  have hq := h (s.heap.objs.size + 1) s.heap.objs.size (I.hok.fresh (Nat.le_succ _)) (I.hok.fresh (Nat.le_refl _)) (Nat.ne_of_lt (Nat.lt_succ_self _))
  have I2 := Inv.made (C := C) I
  have r2 : Vals (V.ref (s.heap.objs.size + 1) :: vs) (Value.ref (s.heap.objs.size + 1) :: us) := .cons rfl r
  refine wpAny_call (make_map (f := f) I.kIn M.makes M.init (beq_iff_eq.mp M.fn) (codeAny_mono (F _ X.stack _ _ (Value.ref (s.heap.objs.size + 1) :: us) _ _ _ (make_guards.trans g0) (hr.make C us []) (I2.env0.make C us []) r2 hq) fun r s' hq' => ?_))
  cases r with
  | error e => exact hq'.elim
  | ok fl =>
    cases fl with
    | ret u =>
      obtain ⟨v, H', I3, rv, ev, q3⟩ := I2.after hq'
      subst ev
      exact ⟨rv, ⟨V.ref (s.heap.objs.size + 1), H', I3, rfl, q3⟩⟩
    | next => exact False.elim hq'
    | brk => exact False.elim hq'
    | cont => exact False.elim hq'
theorem pe_makeG (M : L2.Mk X.K C f) (F : FnRG X.prog X.w X.K X.mg X.base CX0 k f sp) (g0 : X.A.guards = some []) (hr : Room (k + 1) X.A) (hg : Gl X x) (hm : X.mg x = some (.ref C)) (ha : PA X (e :: es) t) (hdb : (x == ("__debug__" : Str)) = false := by decide)
    (he : starEach (e :: es) X.env = (false, eval e X.env) :: starEach es X.env := by rfl) (hpl : (backTo pos (starEach es X.env)).any (·.1) = false := by rfl) : PE X (.Call (.Name x p) (e :: es) [] pos) (StX.tMakeR C sp (fun _ _ _ => False) t) := by
  refine ⟨fun pins s σ H Q I h => ?_⟩
  refine wpAny_Call_Name_kw (ld_glob I hg hm ?_ hdb)
  refine PySem.W.callWith_K (h₀ := X.base) I.ok.mod.kin M.kp (thn (ha.run pos pins s σ H _ I h) fun us s1 ⟨vs, H1, I1, r, q⟩ => ⟨I1.kIn, ?_⟩) he hpl
  exact run_makeG M F g0 hr I1 r q
end
theorem rep_obj {K : PySem.W.Frag} {O : Addr → Prop} {o : Ob} {ds : List PyData} {vs : List V} {H : Hp} (da : DpAll K (hid H O) vs ds) (occ : ∀ a, O a → ∃ u, H a = some u) (ob : ObAt K O H o) : Rep K O (.s o :: ds.map Sl.d) ((V.ref o.a :: vs).map some) H := by
  have dS : ∀ {i : Nat} {s : Sl}, (ds.map Sl.d)[i]? = some s → ∃ d, ds[i]? = some d ∧ s = .d d := fun {i s} e => by
    rw [List.getElem?_map] at e
    cases q : ds[i]? with
    | none => rw [q] at e; cases e
    | some d => rw [q] at e; cases e; exact ⟨d, rfl, rfl⟩
  refine ⟨by rw [List.length_cons, List.length_map, List.length_map, List.length_cons, da_len da], fun i x e => ?_, fun i xs e => ?_, fun i j xs ys a e1 _ _ _ => ?_, occ, ⟨fun i kvs e => ?_, fun i j ks ls a e1 _ _ _ => ?_, fun i ks e => ?_, fun i u e => ?_, fun i j u u' a e1 e2 _ _ => ?_, fun i j u xs a _ e2 _ => ?_⟩⟩
  · cases i with
    | zero => cases e
    | succ i =>
      obtain ⟨d, q, z⟩ := dS e
      cases z
      obtain ⟨v, e1, e2⟩ := da_get da q
      exact ⟨v, by rw [List.map_cons, List.getElem?_cons_succ, List.getElem?_map, e1]; rfl, e2⟩
  · cases i with
    | zero => cases e
    | succ i => obtain ⟨d, _, z⟩ := dS e; cases z
  · cases i with
    | zero => cases e1
    | succ i => obtain ⟨d, _, z⟩ := dS e1; cases z
  · cases i with
    | zero => cases e
    | succ i => obtain ⟨d, _, z⟩ := dS e; cases z
  · cases i with
    | zero => cases e1
    | succ i => obtain ⟨d, _, z⟩ := dS e1; cases z
  · cases i with
    | zero => cases e
    | succ i => obtain ⟨d, _, z⟩ := dS e; cases z
  · cases i with
    | zero => cases e; exact ⟨rfl, ob⟩
    | succ i => obtain ⟨d, _, z⟩ := dS e; cases z
  · cases i with
    | zero =>
      cases j with
      | zero => rfl
      | succ j => obtain ⟨d, _, z⟩ := dS e2; cases z
    | succ i => obtain ⟨d, _, z⟩ := dS e1; cases z
  · cases j with
    | zero => cases e2
    | succ j => obtain ⟨d, _, z⟩ := dS e2; cases z
structure MI (P : Program) (w : World) (K : PySem.W.Frag) (mg : Str → Option Value) (base : Heap) (k : Nat) (n : Str) (S : WIn) : Prop where
  ex : ∃ C f, nsAt K n C ∧ mg n = some (.ref C) ∧ L2.Mk K C f ∧ FnRG P w K mg base CX0 k f (spIniA K fun o ds P => o.n = n ∧ S o ds P)
section
variable {X : Cx} {k : Nat} {n : Str} {S : WIn} {e : Expr} {es : List Expr} {ua : WA} {p pos : Pos} {tc : WT} {wa wb : WN} {c a b : Expr}
theorem NewO.back {K : PySem.W.Frag} {O O' : Addr → Prop} {δ δ1 : Dl} {σ : L2.St} {H H1 H' : Hp} {o : Ob} (N : NewO K O O' H1 H' o) (R0 : Rep K O δ σ H) (R1 : Rep K O δ1 σ H1) (s1 : Stp O δ δ1 σ H H1) : NewO K O O' H H' o :=
  ⟨N.sub, fun a z => (N.new a z).imp id fun q => s1.tr.back R0 R1 q, s1.same.trans N.same, N.ob, fun a m => s1.tr.back R0 R1 (N.fresh a m)⟩
end
abbrev WMk := List PyData → (Ob → Prop) → Prop
def spOfN (K : PySem.W.Frag) (S : WMk) : Sp := fun vs H Q _ => ∃ O ds P, DpAll K (hid H O) vs ds ∧ (∀ a, O a → ∃ u, H a = some u) ∧ S ds P ∧ ∀ o H' O', P o → (∀ a, O a → H' a = H a) → (∀ a, O' a → ∃ u, H' a = some u) → NewO K O O' H H' o → Q (.ref o.a) H'
structure FnM (P : Program) (w : World) (K : PySem.W.Frag) (mg : Str → Option Value) (base : Heap) (k : Nat) (x : Str) (S : WMk) : Prop where
  ex : ∃ (a : Addr) (fd : FuncData) (ps : List Str), mg x = some (.ref a) ∧ PySem.W.keepIn K (.ref a) = true ∧ Binds K fd ps [] ∧ FnG P w K mg base CX0 k a fd ps (spOfN K S)
end Dw
namespace L2
open PySem PySem.Spec PyProof.Rows
section
variable {P : Program} {w : World} {A : Around} {E : Value → Shared → Prop} {s : Shared}
end
section
variable {X : Cx}
end
end L2
namespace Dw
open PySem PySem.Spec PyProof.Rows L2 SrtT
section
variable {X : Cx} {a b : Expr} {ta : TE} {wa wb : WE} {p p2 q pos : Pos}
end
end Dw
namespace Dw
open PySem PySem.Spec PyProof.Rows L2
section
variable {X : Cx} {e : Expr} {p pos : Pos} {ua : WA}
end
end Dw
namespace Dw
open PySem PySem.Spec PyProof.Rows L2
section
variable {X : Cx} {a b c : Expr} {ua : WA} {px py pz pt pos : Pos} {kt k2 : Nat} {pt2 : Pos} {x y z : Str}
end
end Dw
namespace Dw
open PySem PySem.Spec PyProof.Rows L2
def rCatSD : R2D := fun d e P => match d, e with
  | .str x, .str y => x.length + y.length ≤ 1000 ∧ P (.d (.str (x ++ y)))
  | _, _ => False
theorem de_catS {X : Cx} {a b : Expr} {wa wb : WE} {pos : Pos} (ha : DE X a wa) (hb : DE X b wb) : DE X (.BinOp a .Add b pos) (w2 rCatSD wa wb) := de_op op_add_str (by
  intro G H x y d e P Q hx hy s r f
  unfold rCatSD at r
  split at r
  · rename_i i j
    obtain ⟨h1, r⟩ := r
    exact ⟨i, j, hx.str, hy.str, Nat.le_trans h1 (by rw [sizeLine_eq]; decide), f.1 _ _ r (.str _)⟩
  · exact r.elim) ha hb
section
variable {X : Cx} {e : Expr} {pos : Pos}
variable {ua : WA} {p : Pos}
def rStrID : RCD := fun ds P => match ds with
  | [.int i] => i.natAbs.log2 < 1920 ∧ P (.d (.str (toString i)))
  | _ => False
theorem cd_strI {K : PySem.W.Frag} : CallD K (fun xs H Q => ∃ i, xs = [.int i] ∧ i.natAbs.log2 < 1920 ∧ Q (.str (toString i)) H) rStrID := by
  intro G H xs ds P Q h s r f
  unfold rStrID at r
  split at r
  · rename_i i
    obtain ⟨v, rfl, hv⟩ := dq1 h
    have e := hv.int
    subst e
    exact ⟨i, rfl, r.1, f.1 _ _ r.2 (.str _)⟩
  · exact r.elim
theorem de_strI (hg : Gl X "str") (hm : X.mg "str" = none) (ha : DA X [e] ua) (he : starEach [e] X.env = (false, eval e X.env) :: starEach [] X.env := by rfl) : DE X (.Call (.Name "str" p) [e] [] pos) (wCB rStrID ua) :=
  de_cty call_str_int cd_strI hg hm (by decide +kernel) ha (he := he)
end
end Dw
namespace Dw
open PySem PySem.Spec PyProof.Rows L2
section
variable {X : Cx} {e a b c : Expr} {wn : WN} {we wb : WE} {x y : Str} {pos pos' px py pt pt2 : Pos} {kt k2 : Nat}
end
abbrev WSN := (Dl → Prop) → (Ob → Prop) → Dl → Prop
def EOkN (K : PySem.W.Frag) (O : Addr → Prop) (δ : Dl) (σ : L2.St) (H : Hp) (Po : Ob → Prop) (D : Ends) : Prop :=
  ∀ o O1 O' δ1 δ' σ1 H1 H', Po o → Tr O O1 δ δ1 σ σ1 H H1 → Rep K O1 δ1 σ1 H1 → Stp O1 δ1 δ' σ1 H1 H' → NewO K O1 O' H1 H' o → Rep K O' δ' σ1 H' → D.rt (.ref o.a) H'
section
variable {K : PySem.W.Frag} {O O1 : Addr → Prop} {δ δ1 : Dl} {σ σ1 : L2.St} {H H1 : Hp} {Po : Ob → Prop} {D : Ends}
theorem EOkN.after (E : EOkN K O δ σ H Po D) (R : Rep K O δ σ H) (R1 : Rep K O1 δ1 σ1 H1) (a : Tr O O1 δ δ1 σ σ1 H H1) : EOkN K O1 δ1 σ1 H1 Po D :=
  fun o O2 O' δ2 δ' σ2 H2 H' po tr R2 st nw R' => E o O2 O' δ2 δ' σ2 H2 H' po (a.trans R R1 tr) R2 st nw R'
end
section
variable {X : Cx} {st : Stmt} {rest body orelse : List Stmt} {ws : WS} {w w' : WSN} {t : WT} {e c : Expr} {wn : WN} {pos : Pos}
end
end Dw
namespace Dw
open PySem PySem.Spec PyProof.Rows L2
theorem FnRG.sp {P : Program} {w : World} {K : PySem.W.Frag} {mg : Str → Option Value} {base : Heap} {k : Nat} {f : Addr} {S S' : WE} (F : FnRG P w K mg base CX0 k f (spOf K S')) (h : ∀ δ P, S δ P → S' δ P) : FnRG P w K mg base CX0 k f (spOf K S) :=
  F.imp fun vs H Q E ⟨O, δ, Pd, R, hs, g⟩ => ⟨O, δ, Pd, R, h _ _ hs, g⟩
theorem FnRG.ini {P : Program} {w : World} {K : PySem.W.Frag} {mg : Str → Option Value} {base : Heap} {k : Nat} {f : Addr} {S S' : WIn} (F : FnRG P w K mg base CX0 k f (spIniA K S')) (h : ∀ o ds P, S o ds P → S' o ds P) : FnRG P w K mg base CX0 k f (spIniA K S) :=
  F.imp fun vs H Q E ⟨O, o, ds, ws, rest, rs, Pd, a, b, c, d, e, hs, g⟩ => ⟨O, o, ds, ws, rest, rs, Pd, a, b, c, d, e, h _ _ _ hs, g⟩
structure SupK (P : Program) (K : PySem.W.Frag) (mg : Str → Option Value) (c cc D : Addr) : Prop where
  code : ∃ ccl cdd vs ccs file tf, K.lookup c = some ⟨ccl, cdd, .fields vs, ccs⟩ ∧ vs[2]? = some (.str file tf) ∧ ((P.main.file : Str) == file) = true
  cell : ∃ cl cld csl, K.lookup cc = some ⟨cl, cld, .cell (some (.ref D)), csl⟩
  top : (P.main.scope.names.lookup ("super" : Str)).isSome = false
  ms : mg "super" = none
  clsD : ∃ cd, PySem.W.clsIn K D = some cd
  any : PySem.W.nsIn K cStatics "thirdparty.any" = some none
section
variable {X : Cx} {y f : Str} {ns fl : List Str} {pos py tp cp : Pos} {ck : Nat}
end
def wFmt (w : WE) : WE := fun δ P => w δ fun r δ1 => match r with
  | .d (.str y) => y.length ≤ sizeLine ∧ P (.d (.str y)) δ1
  | .d (.int i) => i.natAbs.log2 < 1920 ∧ P (.d (.str (toString i))) δ1
  | _ => False
def wJs : List WE → Str → Dl → (Str → Dl → Prop) → Prop
  | [], acc, δ, P => P acc δ
  | w :: ws, acc, δ, P => w δ fun r δ1 => match r with
    | .d (.str y) => (acc ++ y).length ≤ sizeLine ∧ wJs ws (acc ++ y) δ1 P
    | _ => False
def wJoin (ws : List WE) : WE := fun δ P => wJs ws Str.empty δ fun out δ1 => P (.d (.str out)) δ1
inductive DJ (X : Cx) : List Expr → List WE → Prop where
  | nil : DJ X [] []
  | cons {e : Expr} {w : WE} {es : List Expr} {ws : List WE} (h : DE X e w) (r : DJ X es ws) : DJ X (e :: es) (w :: ws)
theorem DJ.pj {X : Cx} {es : List Expr} {ws : List WE} (h : DJ X es ws) : PJ X es (ws.map (lift X.K)) := by
  induction h with
  | nil => exact .nil
  | cons h _ ih => exact .cons h ih
theorem js_ok {K : PySem.W.Frag} {O : Addr → Prop} {σ : L2.St} {Q : Str → Hp → Prop} {P : Str → Dl → Prop} {δ0 : Dl} {H0 : Hp} (f : ∀ out δ' H', P out δ' → Stp O δ0 δ' σ H0 H' → Rep K O δ' σ H' → Q out H') : ∀ (ws : List WE) (acc : Str) (δ : Dl) (H : Hp), Rep K O δ σ H → Stp O δ0 δ σ H0 H → wJs ws acc δ P → tJs (ws.map (lift K)) acc σ H Q
  | [], acc, δ, H, R, s, w => f acc δ H w s R
  | w :: ws, acc, δ, H, R, s, h => by
    refine ⟨O, δ, _, R, h, fun r δ1 v H1 w1 s1 R1 k1 => ?_⟩
    split at w1
    · rename_i y
      have d : Dp K (hid H1 O) v (.str y) := k1
      cases d
      exact ⟨y, rfl, w1.1, js_ok f ws (acc ++ y) δ1 H1 R1 (s.trans s1) w1.2⟩
    · exact w1.elim
section
variable {X : Cx} {e e1 e2 : Expr} {es : List Expr} {we : WE} {ws : List WE} {pos : Pos}
theorem de_fmt (h : DE X e we) : DE X (.FormattedValue e (-1) none pos) (wFmt we) := by
  refine pe_weak (pe_fmt h) fun σ H Q ⟨O, δ, P, R0, w, g⟩ => ?_
  refine ⟨O, δ, _, R0, w, fun r δ1 v H1 w1 s1 R1 k1 => ?_⟩
  split at w1
  · rename_i y
    have d : Dp X.K (hid H1 O) v (.str y) := k1
    cases d
    exact .inl ⟨y, rfl, w1.1, g _ _ _ _ w1.2 s1 R1 (.str _)⟩
  · rename_i n
    have d : Dp X.K (hid H1 O) v (.int n) := k1
    cases d
    exact .inr ⟨n, rfl, w1.1, g _ _ _ _ w1.2 s1 R1 (.str _)⟩
  · exact w1.elim
theorem de_joined (h : DJ X (e1 :: e2 :: es) ws) : DE X (.JoinedStr (e1 :: e2 :: es) pos) (wJoin ws) := by
  refine pe_weak (pe_joined h.pj) fun σ H Q ⟨O, δ, P, R0, w, g⟩ => ?_
  exact js_ok (Q := fun out H1 => Q (.str out) H1) (fun out δ' H' w1 s1 R1 => g (.d (.str out)) δ' (.str out) H' w1 s1 R1 (show Dp X.K (hid H' O) (.str out) (.str out) from .str _)) ws Str.empty δ H R0 Stp.refl w
end
end Dw
namespace Dw
open PySem PySem.Spec PyProof.Rows L2
def MDef (K : PySem.W.Frag) (x qual : Str) (st : Stmt) (f : Addr) : Prop := ∃ (oc : Value) (od : Option Addr) (kV dc pm : Value) (an : Option Addr) (cd ct : Value) (sl : Array (Option Value)),
  K.lookup f = some ⟨oc, od, .func (PySem.W.fnOf x qual (defArgs st) (defBody st) (defScope st) .none kV dc pm an cd ct), sl⟩ ∧ PySem.W.codeIn K cd qual = true ∧ PySem.W.keepIn K (.ref f) = true
theorem mdef_in {K : PySem.W.Frag} {x qual : Str} {st : Stmt} {f : Addr} {oc : Value} {od : Option Addr} {kV dc pm : Value} {an : Option Addr} {cd ct : Value} {sl : Array (Option Value)}
    (l : K.lookup f = some ⟨oc, od, .func (PySem.W.fnOf x qual (defArgs st) (defBody st) (defScope st) .none kV dc pm an cd ct), sl⟩) (c : PySem.W.codeIn K cd qual = true) (k : PySem.W.keepIn K (.ref f) = true) : MDef K x qual st f := ⟨oc, od, kV, dc, pm, an, cd, ct, sl, l, c, k⟩
section
variable {P : Program} {w : World} {K : PySem.W.Frag} {mg : Str → Option Value} {base : Heap} {x qual : Str} {st : Stmt} {f c cc D : Addr} {ps : List Str} {pv : Str} {sp : Sp} {k : Nat}
theorem init_in (d : MDef K x qual st f)
    (hb : ∀ (kV doc pm : Value) (an : Option Addr) (cdv ct : Value) (us rest : List Value), us.length = ps.length → bindArgs (PySem.W.fnOf x qual (defArgs st) (defBody st) (defScope st) .none kV doc pm an cdv ct) ⟨us ++ rest, []⟩ = (newTuple rest >>= fun t => pure (ps.zip us ++ [(pv, t)])))
    (ok : ∀ {fd : FuncData}, Fun K x qual st f fd → (∀ us rest : List Value, us.length = ps.length → bindArgs fd ⟨us ++ rest, []⟩ = (newTuple rest >>= fun t => pure (ps.zip us ++ [(pv, t)]))) → FnRG P w K mg base CX0 k f sp) : FnRG P w K mg base CX0 k f sp := by
  obtain ⟨oc, od, kV, dc, pm, an, cd, ct, sl, l, c, kp⟩ := d
  have F := fun_mk (st := st) l c kp
  obtain ⟨oc', od', kV', doc', pm', an', cdv', ct', osl', efd, _, _⟩ := F.ex
  refine ok F fun us rest hl => ?_
  exact hb _ _ _ _ _ _ us rest hl
end
end Dw
namespace PySem
open Sem (wp)
section
variable {M : Model} {A : Around} {R : GenEnd} {Y : Protocol} {n : Nat} {s₀ : Shared} {c : Code} {fs : List Frame} {s : Shared} {env : Env}
  {K : Flow → Sem Fin} {H : Value → Sem Fin} {gd : Bool → Bool} {lv : List Value → List Value}
end
section
variable {prog : Program} {w : World} {A : Around} {R : GenEnd} {Y : Protocol} {n : Nat} {s₀ : Shared} {fs : List Frame} {s : Shared} {env : Env}
end
end PySem
namespace L2
open PySem PySem.Spec PyProof.Rows
section
variable {X : Cx} {st : Stmt} {rest : List Stmt}
end
end L2
namespace Dw
open PySem PySem.Spec PyProof.Rows L2
section
variable {X : Cx} {CX : CXT} {k : Nat} {f : Addr} {fd : FuncData} {ps : List Str} {sp : Sp} {E : XK} {x : Str} {p pos : Pos} {e : Expr} {es : List Expr} {t : TA} {ua : WA} {we : WE} {S : WE}
structure FnN (P : Program) (w : World) (K : PySem.W.Frag) (mg : Str → Option Value) (base : Heap) (CX : CXT) (k : Nat) (f : Addr) (fd : FuncData) (ps : List Str) (sp : Sp) : Prop where
  len : ∀ ys G Q E, sp ys G Q E → ys.length = ps.length
  run : ∀ (A : Around) (outer : List Env) (s : Shared) (G : Hp) (args : Args) (us : List Value) (ys : List V) (Q : VK) (E : XK), Room k A →
    Env0 P w K mg base A outer s G → BindsTo s fd args (ps.zip us) → Vals ys us → sp ys G Q E → codeAny (model P w) A (.call (.ref f) args) (CR CX outer P w G s Q E) s
structure Fn0 (P : Program) (w : World) (K : PySem.W.Frag) (mg : Str → Option Value) (base : Heap) (k : Nat) (x : Str) (S : WE) : Prop where
  ex : ∃ (a : Addr) (fd : FuncData) (ps : List Str), mg x = some (.ref a) ∧ PySem.W.keepIn K (.ref a) = true ∧ Binds K fd ps [] ∧ FnN P w K mg base CX0 k a fd ps (spOf K S)
end
end Dw
namespace L2
open PySem PySem.Spec PyProof.Rows
theorem GSs.nox {X : Cx} {st : List Stmt} {t : TGn} (h : GSs X.nox st t) : GSs X st t := by
  refine ⟨fun A S ip R n ys s₀ c fs K J gd lv s σ H D g hn k hI ht => ?_⟩
  have gi : ∀ {ip : List (Addr × Obj)} {ys : List V} {σ : St} {H : Hp} {s : Shared}, GI X.nox S ip ys σ H s ↔ GI X S ip ys σ H s := fun {ip ys σ H s} => ⟨fun ⟨a, c, r, I⟩ => ⟨a, c, r, I.unwish⟩, fun ⟨a, c, r, I⟩ => ⟨a, c, r, I.wish _⟩⟩
  have y1 : ∀ n s₀ v s kap kap', (∀ r s', kap r s' → kap' r s') → GY X.nox S n s₀ v s kap → GY X S n s₀ v s kap' := fun n s₀ v s kap kap' hk ⟨ys, x, ip, σ, H, h1, h2, h3, h4⟩ => ⟨ys, x, ip, σ, H, h1, h2, gi.mp h3, fun s' z => hk _ _ (h4 s' z)⟩
  have y2 : ∀ n s₀ v s kap kap', (∀ r s', kap r s' → kap' r s') → GY X S n s₀ v s kap → GY X.nox S n s₀ v s kap' := fun n s₀ v s kap kap' hk ⟨ys, x, ip, σ, H, h1, h2, h3, h4⟩ => ⟨ys, x, ip, σ, H, h1, h2, gi.mpr h3, fun s' z => hk _ _ (h4 s' z)⟩
  refine seg_imp (R := R) (Y := GY X.nox S) (fun _ _ _ _ z => z) y1 n ?_
  refine h.run A S ip R n ys s₀ c fs K J gd lv s σ H D ⟨g.pn, g.ip, g.apart, g.over, g.split, g.guard, g.gd⟩ hn ⟨fun n ys s₀ s f hn hs => ?_, fun _ _ _ _ z => z.elim⟩ (gi.mpr hI) ht
  refine seg_imp (R := R) (Y := GY X S) (fun _ _ _ _ z => z) y2 n (k.ok n ys s₀ s f hn ?_)
  cases f with
  | next => obtain ⟨σ', H', I, q⟩ := hs; exact ⟨σ', H', gi.mp I, q⟩
  | brk => obtain ⟨σ', H', I, q⟩ := hs; exact ⟨σ', H', gi.mp I, q⟩
  | cont => obtain ⟨σ', H', I, q⟩ := hs; exact ⟨σ', H', gi.mp I, q⟩
  | ret u => obtain ⟨v, σ', H', I, r, q⟩ := hs; exact ⟨v, σ', H', gi.mp I, r, q⟩
end L2
namespace Dw
open PySem PySem.Spec PyProof.Rows L2
theorem FnN.toG {P : Program} {w : World} {K : PySem.W.Frag} {mg : Str → Option Value} {base : Heap} {CX : CXT} {k : Nat} {f : Addr} {fd : FuncData} {ps : List Str} {sp : Sp} (F : FnN P w K mg base CX k f fd ps sp) : FnG P w K mg base CX k f fd ps sp :=
  ⟨F.len, fun A o s G ar us ys Q E _ hr => F.run A o s G ar us ys Q E hr⟩
theorem Fn0.fn {P : Program} {w : World} {K : PySem.W.Frag} {mg : Str → Option Value} {base : Heap} {k : Nat} {x : Str} {S : WE} (F : Fn0 P w K mg base k x S) : Fn P w K mg base k x S := by
  obtain ⟨a, fd, ps, h1, h2, h3, h4⟩ := F.ex
  exact ⟨a, fd, ps, h1, h2, h3, h4.toG⟩
structure GDEnds where
  nx : List PyData → Dl → Prop
  bk : List PyData → Dl → Prop
  ct : List PyData → Dl → Prop
abbrev WG := GDEnds → List PyData → Dl → Prop
structure GEOk (K : PySem.W.Frag) (O : Addr → Prop) (δ : Dl) (σ : L2.St) (H : Hp) (P : GDEnds) (D : GEnds) : Prop where
  nx : ∀ O' δ' σ' H' ys zs, P.nx zs δ' → Tr O O' δ δ' σ σ' H H' → Rep K O' δ' σ' H' → DpAll K (hid H' O') ys zs → D.nx ys σ' H'
  bk : ∀ O' δ' σ' H' ys zs, P.bk zs δ' → Tr O O' δ δ' σ σ' H H' → Rep K O' δ' σ' H' → DpAll K (hid H' O') ys zs → D.bk ys σ' H'
  ct : ∀ O' δ' σ' H' ys zs, P.ct zs δ' → Tr O O' δ δ' σ σ' H H' → Rep K O' δ' σ' H' → DpAll K (hid H' O') ys zs → D.ct ys σ' H'
section
variable {K : PySem.W.Frag} {O O1 O2 : Addr → Prop} {δ δ1 δ2 : Dl} {σ σ1 σ2 : L2.St} {H H1 H2 : Hp} {P : GDEnds} {D : GEnds}
theorem GEOk.after (E : GEOk K O δ σ H P D) (R : Rep K O δ σ H) (R1 : Rep K O1 δ1 σ1 H1) (a : Tr O O1 δ δ1 σ σ1 H H1) : GEOk K O1 δ1 σ1 H1 P D :=
  ⟨fun _ _ _ _ _ _ p t R' z => E.nx _ _ _ _ _ _ p (a.trans R R1 t) R' z, fun _ _ _ _ _ _ p t R' z => E.bk _ _ _ _ _ _ p (a.trans R R1 t) R' z, fun _ _ _ _ _ _ p t R' z => E.ct _ _ _ _ _ _ p (a.trans R R1 t) R' z⟩
end
section
variable {X : Cx} {st : Stmt} {rest body orelse : List Stmt} {w : WS} {g g' gb : WG} {we : WE} {wi : WI} {t : WT} {e tg iter c : Expr} {pos yp : Pos} {b : WB} {js : List Nat}
end
abbrev WGS := Dl → (List PyData → Prop) → Prop
def spG (K : PySem.W.Frag) (S : WGS) : SpG := fun vs H Q _ => ∃ O δ P, Rep K O δ (vs.map some) H ∧ S δ P ∧ ∀ out zs δ' H', P zs → Stp O δ δ' (vs.map some) H H' → Rep K O δ' (vs.map some) H' → DpAll K (hid H' O) out zs → Q out H'
structure FnGn (P : Program) (w : World) (K : PySem.W.Frag) (mg : Str → Option Value) (base : Heap) (k : Nat) (x : Str) (S : WGS) : Prop where
  ex : ∃ (a : Addr) (fd : FuncData) (ps : List Str), mg x = some (.ref a) ∧ PySem.W.keepIn K (.ref a) = true ∧ Binds K fd ps [] ∧ GFn P w K mg base k a fd ps (spG K S)
end Dw
namespace Dw
open PySem PySem.Spec PyProof.Rows L2
def FnRN (P : Program) (w : World) (K : PySem.W.Frag) (mg : Str → Option Value) (base : Heap) (CX : CXT) (k : Nat) (f : Addr) (sp : Sp) : Prop :=
  ∀ (A : Around) (outer : List Env) (s : Shared) (H : Hp) (us : List Value) (vs : List V) (Q : VK) (E : XK), Room k A → Env0 P w K mg base A outer s H → Vals vs us → sp vs H Q E →
    codeAny (model P w) A (.call (.ref f) ⟨us, []⟩) (CR CX outer P w H s Q E) s
theorem FnRN.mono {P : Program} {w : World} {K : PySem.W.Frag} {mg : Str → Option Value} {base : Heap} {CX : CXT} {j k : Nat} {f : Addr} {sp : Sp} (F : FnRN P w K mg base CX j f sp) (h : j ≤ k) : FnRN P w K mg base CX k f sp :=
  fun A outer s H us vs Q E hr => F A outer s H us vs Q E (hr.mono h)
section
variable {X : Cx} {k i : Nat} {m y : Str} {p pos py : Pos}
end
structure MPD (P : Program) (w : World) (K : PySem.W.Frag) (mg : Str → Option Value) (base : Heap) (k : Nat) (m : Str) (S : WE) : Prop where
  at_ : ∃ C p g, nsAt K "Sheet" C ∧ Cls K C ∧ PropOf K C m p g ∧ FnRN P w K mg base CX0 k g (spOf K S)
section
variable {X : Cx} {ns fl : List Str} {y f m : Str} {py pos : Pos} {k : Nat} {S : WE}
def wFldDc (i : Nat) : WE := fun δ P => ∃ m, δ[i]? = some (.d (obD m)) ∧ P (.d (.int m)) δ
def wFldDh (i : Nat) : WE := fun δ P => ∃ m, δ[i]? = some (.d (obD m)) ∧ P (.d (.tuple [])) δ
def wNmD (i : Nat) : WE := fun δ P => ∃ m, δ[i]? = some (.d (obD m)) ∧ P (.d (.str "Sheet")) δ
def wPropD (i : Nat) (S : WE) : WE := fun δ P => ∃ m, δ[i]? = some (.d (obD m)) ∧ S [.d (obD m)] fun r _ => match r with
  | .b _ _ => False
  | r => P r δ
end
end Dw
namespace Dw
open PySem PySem.Spec PyProof.Rows L2
mutual
def okOB : PyData → Bool
  | .none => true
  | .bool _ => true
  | .int i => decide (i.natAbs.log2 < 1920)
  | .str x => decide ((reprText x).length ≤ sizeLine)
  | .tuple ds => okOBs ds
  | .list ds => okOBs ds
  | .dict [(.none, .int 0)] => true
  | .dict [(.none, .int k), (.none, .int m)] => decide (k = 6 ∧ 1 ≤ m ∧ m ≤ 5)
  | .dict _ => false
def okOBs : List PyData → Bool
  | [] => true
  | d :: ds => okOB d && okOBs ds
end
mutual
def shOB : PyData → Str
  | .none => "None"
  | .bool b => if b then "True" else "False"
  | .int i => toString i
  | .str x => reprText x
  | .tuple ds => tupleText (shOBs ds)
  | .list ds => listText (shOBs ds)
  | .dict [(.none, .int 0)] => "{}"
  | .dict _ => "Sheet(0 rows, 0 blanks)"
def shOBs : List PyData → List Str
  | [] => []
  | d :: ds => shOB d :: shOBs ds
end
mutual
def deOB : PyData → Nat
  | .tuple ds => deOBs ds + 1
  | .list ds => deOBs ds + 1
  | _ => 0
def deOBs : List PyData → Nat
  | [] => 0
  | d :: ds => max (deOB d) (deOBs ds)
end
def Kids (K : PySem.W.Frag) (G : Hp) (a : Addr) (xs : List V) : Prop := SqL K G a xs ∨ G a = some (.tup xs)
structure Kok (K : PySem.W.Frag) (G : Hp) : Prop where
  uniq : ∀ a xs ys, Kids K G a xs → Kids K G a ys → xs = ys
  nk : ∀ a o, K.lookup a = some o → G a = none
inductive Rch (K : PySem.W.Frag) (G : Hp) : V → Addr → Prop
  | here {a : Addr} : Rch K G (.ref a) a
  | step {a b : Addr} {xs : List V} {x : V} : Kids K G a xs → x ∈ xs → Rch K G x b → Rch K G (.ref a) b
structure Nst (X : Cx) (j : Nat) (g : List Code) (A : Around) : Prop where
  hd : A.handled = X.A.handled
  dp : A.depth ≤ X.A.depth + j
  fr : A.frames = X.A.frames
  gu : A.guards = some g
  un : A.units ≤ X.A.units + j + 1
theorem Nst.room {X : Cx} {j : Nat} {g : List Code} {A : Around} {k : Nat} (h : Nst X j g A) (r : Room (k + 2) X.A) (hj : j ≤ 6) : Room k A :=
  ⟨h.hd.trans r.hd, by have := r.dp; have := h.dp; omega, by have := r.un; have := h.un; omega⟩
theorem Nst.env0 {X : Cx} {j : Nat} {g : List Code} {A : Around} {pins : List (Addr × Obj)} {σ : L2.St} {H : Hp} {s : Shared} (h : Nst X j g A) (I : Inv X pins σ H s) : Env0 X.prog X.w X.K X.mg X.base A X.stack s H :=
  ⟨h.fr.trans I.env0.frames, I.env0.mod, I.env0.bs, I.env0.bsz, I.env0.funs, I.env0.frf, I.env0.hok, I.env0.bare⟩
theorem Nst.units {X : Cx} {j : Nat} {g : List Code} {A : Around} {k : Nat} (h : Nst X j g A) (r : Room (k + 2) X.A) (hj : j ≤ 6) : A.units < cLine := by have := r.un; have := h.un; omega
theorem Nst.in1 {X : Cx} {g : List Code} (hg : X.A.guards = some g) : Nst X 0 g X.A.in1 := ⟨rfl, Nat.le_refl _, rfl, hg, Nat.le_refl _⟩
theorem Nst.under {X : Cx} {j : Nat} {g : List Code} {A : Around} {id : String} {args : Args} (h : Nst X j g A) (hg : (Code.builtin id args).isGuard = true) (hu : (A.under (.builtin id args)).units = A.units + 1) (hw : (A.under (.builtin id args)).depth ≤ A.depth + 1) : Nst X (j + 1) (.builtin id args :: g) (A.under (.builtin id args)) :=
  ⟨h.hd, by have := h.dp; omega, (show (A.under (.builtin id args)).frames = A.frames by simp [Around.under, Code.envs, Code.isFrame, pushEnvs]).trans h.fr, guards_under_guard hg h.gu, by rw [hu]; have := h.un; omega⟩
structure OdRK (P : Program) (w : World) (K : PySem.W.Frag) (mg : Str → Option Value) (base : Heap) (k : Nat) (S : WE) : Prop where
  at_ : ∃ C f, nsAt K "Sheet" C ∧ PySem.W.findIn K (.ref C) "__repr__" = some (some (.ref f)) ∧ PySem.W.isFn K (.ref f) = true ∧ FnRN P w K mg base CX0 k f (spOf K S)
  tell : ∀ m P, 1 ≤ m → m ≤ 5 → P (.d (.str "Sheet(0 rows, 0 blanks)")) [.d (obD m)] → S [.d (obD m)] P
def hold (acc : Array Value) (c : Nat) : Obj := { cls := .type "list", dict := none, data := .seq acc c, slots := #[] }
end Dw
namespace Dw
open PySem PySem.Spec PyProof.Rows L2
section
variable {X : Cx} {k : Nat} {S : WE} {pins : List (Addr × Obj)} {σ σ0 : L2.St} {δ : Dl} {O : Addr → Prop} {H0 : Hp} {s0 : Shared}
mutual
def hasOb : PyData → Bool
  | .list ds => hasObs ds
  | .tuple ds => hasObs ds
  | .dict [(.none, .int k)] => decide (k ≠ 0)
  | .dict _ => true
  | _ => false
def hasObs : List PyData → Bool
  | [] => false
  | d :: ds => hasOb d || hasObs ds
end
mutual
def bare : PyData → PyData
  | .list ds => .list (bares ds)
  | .tuple ds => .tuple (bares ds)
  | .dict _ => .dict []
  | .none => .none
  | .bool b => .bool b
  | .int i => .int i
  | .str x => .str x
def bares : List PyData → List PyData
  | [] => []
  | d :: ds => bare d :: bares ds
end
end
end Dw
namespace Dw
open PySem PySem.Spec PyProof.Rows L2
def shO (d : PyData) : Str := if hasOb d = true then shOB d else (bare d).shown
def ShowO (d : PyData) : Prop := if hasOb d = true then okOB d = true ∧ deOB d ≤ 5 ∧ (shOB d).length ≤ sizeLine else (bare d).showable = true ∧ (bare d).depth ≤ 64 ∧ (bare d).shown.length ≤ sizeLine
section
variable {X : Cx} {k : Nat} {S : WE}
def wReprO (u : WA) : WE := fun δ P => u δ fun rs δ1 => ∃ d, rs = [.d d] ∧ ShowO d ∧ P (.d (.str (shO d))) δ1
end
end Dw
namespace Dw
open PySem PySem.Spec PyProof.Rows L2
section
variable {X : Cx} {e kx vx : Expr} {wk wv we wo : WE} {pos : Pos}
end
end Dw
namespace Dw
open PySem PySem.Spec PyProof.Rows L2
structure MSf (P : Program) (w : World) (K : PySem.W.Frag) (mg : Str → Option Value) (base : Heap) (k : Nat) (ns : List Str) (S : WE) : Prop where
  at_ : ∀ n ∈ ns, ∃ C f, nsAt K n C ∧ PySem.W.findIn K (.ref C) "__getitem__" = some (some (.ref f)) ∧ PySem.W.fnIn K f = true ∧ PySem.W.isFn K (.ref f) = true ∧ FnRG P w K mg base CX0 k f (spOf K (onN n S))
structure MSq (P : Program) (w : World) (K : PySem.W.Frag) (mg : Str → Option Value) (base : Heap) (k : Nat) (ns : List Str) (S : WE) : Prop where
  at_ : ∀ n ∈ ns, ∃ C f, nsAt K n C ∧ PySem.W.noSeq K C = true ∧ PySem.W.findIn K (.ref C) "__setitem__" = some (some (.ref f)) ∧ PySem.W.isFn K (.ref f) = true ∧ FnRG P w K mg base CX0 k f (spOf K (onN n S))
section
variable {X : Cx} {e b : Expr} {we wb : WE} {y : Str} {pos pos1 py : Pos} {k : Nat} {S : WE} {ns : List Str}
end
end Dw
namespace Dw
open PySem PySem.Spec PyProof.Rows L2
abbrev PXo := Str → List (Str × PyData) → Dl → Prop
abbrev WEo := Dl → (Rv → Dl → Prop) → PXo → Prop
abbrev WSo := DEnds → PXo → Dl → Prop
def FldOk (K : PySem.W.Frag) (O : Addr → Prop) (H : Hp) (d : Option Addr) (fs : List (Str × PyData)) : Prop :=
  (fs = [] ∧ d = none) ∨ ∃ dd us, d = some dd ∧ ¬ O dd ∧ H dd = some (.xd us) ∧ ∀ f x, fs.lookup f = some x → ∃ v, us.lookup f = some v ∧ Dp K (hid H O) v x
def ObO (K : PySem.W.Frag) (mg : Str → Option Value) (W : WX) (O : Addr → Prop) (δ : Dl) (σ σw : L2.St) (H : Hp) (PX : PXo) : Prop :=
  ∀ n fs cls d H' δ', PX n fs δ' → mg n = some cls → Stp O δ δ' σ H H' → Rep K O δ' σ H' → FldOk K O H' d fs → W cls d σw H'
def liftEo (K : PySem.W.Frag) (mg : Str → Option Value) (W : WX) (w : WEo) : TE := fun σ H Q => ∃ O δ P PX, Rep K O δ σ H ∧ w δ P PX ∧ (∀ r δ' v H', P r δ' → Stp O δ δ' σ H H' → Rep K O δ' σ H' → RvOk K O σ δ' H H' v r → Q v H') ∧ ObO K mg W O δ σ σ H PX
def ObS (K : PySem.W.Frag) (mg : Str → Option Value) (E : XK) (O : Addr → Prop) (δ : Dl) (σ : L2.St) (H : Hp) (PX : PXo) : Prop :=
  ∀ n fs cls d O' δ' σ' H', PX n fs δ' → mg n = some cls → Tr O O' δ δ' σ σ' H H' → Rep K O' δ' σ' H' → FldOk K O' H' d fs → E cls d H'
section
variable {K : PySem.W.Frag} {mg : Str → Option Value} {W : WX} {E : XK} {O O1 : Addr → Prop} {δ δ1 : Dl} {σ σ1 σw : L2.St} {H H1 : Hp} {PX : PXo}
theorem ObO.after (b : ObO K mg W O δ σ σw H PX) (s : Stp O δ δ1 σ H H1) : ObO K mg W O δ1 σ σw H1 PX :=
  fun n fs cls d H' δ' p m st R f => b n fs cls d H' δ' p m (s.trans st) R f
theorem ObS.after (b : ObS K mg E O δ σ H PX) (R : Rep K O δ σ H) (R1 : Rep K O1 δ1 σ1 H1) (s : Tr O O1 δ δ1 σ σ1 H H1) : ObS K mg E O1 δ1 σ1 H1 PX :=
  fun n fs cls d O' δ' σ' H' p m st R' f => b n fs cls d O' δ' σ' H' p m (s.trans R R1 st) R' f
theorem ObS.oe (b : ObS K mg E O δ σ H PX) : ObO K mg (WofE E) O δ σ σ H PX := fun n fs cls d H' δ' p m st R f => b n fs cls d O δ' σ H' p m st.tr R f
end
section
variable {X : Cx} {W : WX} {E : XK} {e c : Expr} {es : List Expr} {st : Stmt} {rest body orelse : List Stmt} {we : WE} {eo : WEo} {w : WS} {wo wo' : WSo} {t : WT} {pos pos' p : Pos} {x : Str}
end
def spOo (K : PySem.W.Frag) (mg : Str → Option Value) (S : WEo) : Sp := fun vs H Q E => liftEo K mg (fun cls d _ H' => E cls d H') S (vs.map some) H Q
structure FnO (P : Program) (w : World) (K : PySem.W.Frag) (mg : Str → Option Value) (base : Heap) (k : Nat) (x : Str) (S : WEo) : Prop where
  ex : ∃ (a : Addr) (fd : FuncData) (ps : List Str), mg x = some (.ref a) ∧ PySem.W.keepIn K (.ref a) = true ∧ Binds K fd ps [] ∧ FnG P w K mg base (L2.CX P w) k a fd ps (spOo K mg S)
def onNo (n : Str) (S : WEo) : WEo := fun δ P PX => (match δ with | .s o :: _ => o.n = n | _ => False) ∧ S δ P PX
structure MFo (P : Program) (w : World) (K : PySem.W.Frag) (mg : Str → Option Value) (base : Heap) (k : Nat) (ns : List Str) (m : Str) (S : WEo) : Prop where
  at_ : ∀ n ∈ ns, ∃ C f, nsAt K n C ∧ Cls K C ∧ Meth K C m f ∧ FnRG P w K mg base (L2.CX P w) k f (spOo K mg (onNo n S))
structure MCo (P : Program) (w : World) (K : PySem.W.Frag) (mg : Str → Option Value) (base : Heap) (k : Nat) (ns : List Str) (S : WEo) : Prop where
  at_ : ∀ n ∈ ns, ∃ C f, nsAt K n C ∧ StX.CallO K C f ∧ FnRG P w K mg base (L2.CX P w) k f (spOo K mg (onNo n S))
structure MSqo (P : Program) (w : World) (K : PySem.W.Frag) (mg : Str → Option Value) (base : Heap) (k : Nat) (ns : List Str) (S : WEo) : Prop where
  at_ : ∀ n ∈ ns, ∃ C f, nsAt K n C ∧ PySem.W.noSeq K C = true ∧ PySem.W.findIn K (.ref C) "__setitem__" = some (some (.ref f)) ∧ PySem.W.isFn K (.ref f) = true ∧ FnRG P w K mg base (L2.CX P w) k f (spOo K mg (onNo n S))
section
variable {X : Cx} {W : WX} {E : XK} {e b : Expr} {es : List Expr} {u : WG1} {we wb : WE} {x y m : Str} {p pos pos1 py apos : Pos} {k : Nat} {S : WEo} {ns : List Str}
end
end Dw
namespace Dw
open PySem PySem.Spec PyProof.Rows L2
section
variable {P : Program} {w : World} {K : PySem.W.Frag} {mg : Str → Option Value} {base : Heap} {x qual : Str} {st : Stmt} {f c cc : Addr} {fd : FuncData} {N ps : List Str} {k : Nat} {S : WEo} {wb : WSo}
end
structure MSupo (P : Program) (w : World) (K : PySem.W.Frag) (mg : Str → Option Value) (base : Heap) (k : Nat) (D : Addr) (ns : List Str) (m : Str) (S : WEo) : Prop where
  at_ : ∀ n ∈ ns, ∃ C g, nsAt K n C ∧ SupF K C D m g ∧ FnRG P w K mg base (L2.CX P w) k g (spOo K mg (onNo n S))
section
variable {X : Cx} {E : XK} {all rest : List Stmt} {st : Stmt} {w w' : WSo} {e : Expr} {es : List Expr} {u : WG1} {m y : Str} {p0 p1 p apos pos pos' : Pos} {k : Nat} {S : WEo} {ns : List Str} {f D : Addr}
end
section
variable {P : Program} {w : World} {K : PySem.W.Frag} {mg : Str → Option Value} {base : Heap} {x qual : Str} {st : Stmt} {f c cc : Addr} {fd : FuncData} {N ps : List Str} {k : Nat} {S : WEo} {wb : WSo}
theorem FnRG.so {S' : WEo} (F : FnRG P w K mg base (L2.CX P w) k f (spOo K mg S')) (h : ∀ δ P PX, S δ P PX → S' δ P PX) : FnRG P w K mg base (L2.CX P w) k f (spOo K mg S) :=
  F.imp fun vs H Q E ⟨O, δ, Pd, PX, R, hs, g⟩ => ⟨O, δ, Pd, PX, R, h _ _ _ hs, g⟩
end
end Dw
namespace Dw
open PySem PySem.Spec PyProof.Rows L2
structure SupB (K : PySem.W.Frag) (C D : Addr) : Prop where
  sub : PySem.W.mroIn K C (.ref D) = some true
  at_ : PySem.W.ks_superIn K C D "__init__" = some (some (.builtin "ValueError.__init__"))
  ve : PySem.W.subIn K (.ref C) (.type "ValueError") = some true
section
variable {X : Cx} {pins : List (Addr × Obj)} {σ : L2.St} {H : Hp} {s : Shared} {body all : List Stmt} {i : Nat} {y m : Str} {f C D a so : Addr} {e : Expr} {es : List Expr} {t : TA} {p0 p1 apos pos pos' : Pos}
end
end Dw
namespace Dw
open PySem PySem.Spec PyProof.Rows L2 PySem.W PySem.Calls Builtin Builtin.ObjectAttr Builtin.Getset_descriptor
section
variable {prog : Program} {w : World} {A : Around} {E : Value → Shared → Prop} {s : Shared} {K : Frag} {x D : Addr}
end
end Dw
namespace Dw
open PySem PySem.Spec PyProof.Rows L2
open LamX (LamS lamCx lamEnv CodeO Tabs TabB)
section
variable {X : Cx} {e : Expr} {we : WE} {pos p p2 : Pos}
structure PinD (X : Cx) (a : Addr) (n : Str) : Prop where
  ex : ∃ (D : Addr) (oe : Obj) (od : Option Addr), X.mg n = some (.ref D) ∧ (a, oe) ∈ X.pn ∧ ExcC X.K D ∧ Zc (.ref D) od oe
end
def SayO (wx : WEo) (ns : List Str) (wd : Str → Str) (δ : Dl) (PS : Str → Dl → Prop) : Prop := wx δ (fun r δ' => noB r = true ∧ showOk r.as ∧ PS r.as.shown δ') (fun n _ δ' => n ∈ ns ∧ PS (wd n) δ')
def SaidBodyO (P : Program) (w : World) (K : PySem.W.Frag) (mg : Str → Option Value) (base : Heap) (k : Nat) (x : Str) (st : Stmt) (Ng : List Str) (y : Str) (g : Addr) (cdg : Value) (ns : List Str) (wd : Str → Str) : Prop :=
  ∀ (A : Around) (outer : List Env) (s : Shared) (H : Hp) (f c : Addr) (q : Str) (σm : L2.St) (wx : WEo), A.guards = some [] → Room k (A.deeper (envOfC x (defScope st) s.heap.objs.size g cdg)) →
    (∀ (W : WX) (pn : List (Addr × Obj)) (xe : Value → Shared → Prop) (p1 p2 : Pos), Takes ((cxOf CX0 P w K mg base Ng x (defScope st) g cdg A outer s H E0).tr pn xe) W →
      PE ((cxOf CX0 P w K mg base Ng x (defScope st) g cdg A outer s H E0).tr pn xe) (.Call (.Name y p1) [] [] p2) (fun τ HZ Q => τ[0]? = some (some (.ref f)) ∧ HZ c = some (CodeO c q) ∧ liftEo K mg (fun cls d _ H' => W cls d τ H') wx σm HZ Q)) →
    H c = some (CodeO c q) → ∀ (O : Addr → Prop) (δ : Dl) (PS : Str → Dl → Prop) (Q : VK), Rep K O δ σm H → SayO wx ns wd δ PS → (∀ z δ' H', PS z δ' → Stp O δ δ' σm H H' → Rep K O δ' σm H' → Q (.str z) H') →
    ∃ t, PSs (cxOf CX0 P w K mg base Ng x (defScope st) g cdg A outer s H E0).nox (defBody st) t ∧ t { nx := fun _ G => Q .non G, rt := Q } (L2.start Ng [.ref f]) H
structure SaidFnO (P : Program) (w : World) (K : PySem.W.Frag) (mg : Str → Option Value) (base : Heap) (k : Nat) (x : Str) (ns : List Str) (wd : Str → Str) : Prop where
  ex : ∃ (g : Addr) (oc : Value) (od : Option Addr) (st : Stmt) (kV doc pm : Value) (an : Option Addr) (cdg ct : Value) (osl : Array (Option Value)) (Ng : List Str) (y : Str),
    mg x = some (.ref g) ∧ PySem.W.keepIn K (.ref g) = true ∧ K.lookup g = some ⟨oc, od, .func (PySem.W.fnOf x x (defArgs st) (defBody st) (defScope st) .none kV doc pm an cdg ct), osl⟩ ∧ PySem.W.codeIn K cdg x = true ∧
    Binds K (PySem.W.fnOf x x (defArgs st) (defBody st) (defScope st) .none kV doc pm an cdg ct) [y] [] ∧ FnScope Ng [y] (defScope st) ∧ Ng[0]? = some y ∧ Vis (defScope st) y ∧ (y == ("__debug__" : Str)) = false ∧ (y == ("__classdict__" : Str)) = false ∧ SaidBodyO P w K mg base k x st Ng y g cdg ns wd
end Dw
namespace Dw
open PySem PySem.Spec PyProof.Rows L2
open LamX (Tabs)
section
variable {α : Type} {j : Nat} {l m : List α}
end
section
variable {K : PySem.W.Frag} {O : Addr → Prop} {δ δ' : Dl} {σ : L2.St} {G H H' : Hp} {v : V} {r : Rv} {j : Nat}
end
def liftAGT (T : List (Addr × Str)) (K : PySem.W.Frag) (w : WG1) : TA := fun σ H Q => Tabs T H ∧ ∃ O δ P, Rep K O δ σ (msk T H) ∧ w δ P ∧ ∀ as δ' vs H', P as δ' → Tabs T H' → Stp O δ δ' σ (msk T H) (msk T H') → Rep K O δ' σ (msk T H') → AgsOk K O σ δ' (msk T H) (msk T H') vs as → Q vs H'
def DAGT (T : List (Addr × Str)) (X : Cx) (es : List Expr) (w : WG1) : Prop := PA X es (liftAGT T X.K w)
section
variable {T : List (Addr × Str)} {X : Cx} {e : Expr} {es : List Expr} {we : WE} {u : WG1} {y : Str} {py : Pos}
theorem dagT_nil : DAGT T X [] gNo := pa_weak pa_nil fun σ H Q ⟨t, O, δ, P, R, w, f⟩ => f _ _ _ _ w t Stp.refl R trivial
theorem dagT_own (i : Nat) (hr : DAGT T X es u) (hN : X.N[i]? = some y := by rfl) (hv : Vis X.env.scope y := by first | exact Or.inl rfl | exact Or.inr (Or.inl rfl) | exact Or.inr (Or.inr rfl)) (hy : (y == ("__debug__" : Str)) = false := by decide) (hcd : (y == ("__classdict__" : Str)) = false := by decide)
    (hs : starEach (.Name y py :: es) X.env = (false, eval (.Name y py) X.env) :: starEach es X.env := by rfl) : DAGT T X (.Name y py :: es) (gOwn i u) := by
  refine pa_weak (pa_cons (pe_var hN hv hy hcd) hr hs) fun σ H Q ⟨t, O, δ, P, R0, ⟨hb, w⟩, f⟩ => ?_
  have hv : ∃ v, σ[i]? = some (some v) := by
    cases q : δ[i]? with
    | none => rw [q] at hb; cases hb
    | some s =>
      rw [q] at hb
      cases s <;> first | cases hb | skip
      · obtain ⟨a, _, z, _⟩ := R0.lst i _ q
        exact ⟨_, z⟩
      · exact ⟨_, (R0.ex.s i _ q).1⟩
  obtain ⟨v, ev⟩ := hv
  exact ⟨v, ev, t, O, δ, _, R0, w, fun as δ1 vs H1 w1 t1 s1 R1 k1 => f _ _ _ _ w1 t1 s1 R1 ⟨ev, k1⟩⟩
theorem deT_callG {x : Str} {p pos : Pos} {k : Nat} {S : WE} (F : FnT T X.prog X.w X.K X.mg X.base k x S) (g0 : X.A.guards = some []) (room : Room k X.A) (hg : Gl X x) (ha : DAGT T X (e :: es) u)
    (hdb : (x == ("__debug__" : Str)) = false := by decide) (he : starEach (e :: es) X.env = (false, eval e X.env) :: starEach es X.env := by rfl) (hpl : (backTo pos (starEach es X.env)).any (·.1) = false := by rfl) : DET T X (.Call (.Name x p) (e :: es) [] pos) (wCallG S u) := by
  obtain ⟨f, fd, ps, hm, hk, hb, h4⟩ := F.ex
  refine pe_weak (pe_callG h4 g0 room hg hm hk hb (pass0 (X := X)) ha hdb he hpl) fun σ H Q ⟨t, O, δ, P, R0, w, g⟩ => ?_
  refine ⟨t, O, δ, _, R0, w, fun as δ1 vs H1 w1 t1 s1 R1 k1 => ?_⟩
  obtain ⟨c, w1⟩ := w1
  refine ⟨t1, O, _, _, rep_ag R0 R1 k1 c.1 c.2.1 c.2.2, w1, fun r δc v H' w2 t2 s2 R2 k2 => ?_⟩
  exact ag_end (Q := fun v Gm => ∀ G', msk T G' = Gm → Tabs T G' → Q v G') R0 s1 R1 k1 c (fun r δ' v H2 p st R k G' e1 t3 => by subst e1; exact g _ _ _ _ p t3 st R k) w2 s2 R2 k2 H' rfl t2
end
end Dw
namespace Dw
open PySem PySem.Spec PyProof.Rows L2
def spXi (K : PySem.W.Frag) (C : Addr) (fld : Str) : Sp := fun vs H Q _ => ∃ a y, vs = [V.ref a, y] ∧ H a = some (exo a C none) ∧ ∀ dx, H dx = none → dx ≠ a → Q .non (upd (upd H dx (exd dx [(fld, y)])) a (exo a C (some dx)))
structure XiAt (P : Program) (w : World) (K : PySem.W.Frag) (mg : Str → Option Value) (base : Heap) (k : Nat) (x fld : Str) : Prop where
  ex : ∃ C fI, mg x = some (.ref C) ∧ OexC K C ∧ PySem.W.findIn K (.ref C) "__init__" = some (some (.ref fI)) ∧ PySem.W.typeIn K (.ref fI) = some (.type "function") ∧ FnRG P w K mg base CX0 k fI (spXi K C fld)
end Dw
namespace Dw
open PySem PySem.Spec PyProof.Rows L2
section
variable {X : Cx} {y : Str} {p apos cpos : Pos}
end
end Dw
namespace Dw
open PySem PySem.Spec PyProof.Rows L2
open LamX (Tabs)
section
variable {T : List (Addr × Str)} {X : Cx} {a b e : Expr} {rest : List Expr} {ta tb : WT} {pos : Pos}
end
end Dw
namespace Hq
open PySem PySem.Spec PyProof.Rows L2 He Dw
theorem nonB_ok {v : Value} (h : nonB v = true) : v = .none := by
  cases v with
  | none => rfl
  | _ => cases h
theorem fnQ_ok {K : PySem.W.Frag} {d : DefQ} {f : Addr} (e : fnQ K f = d.val) (c : mdB K f d.qual = true) : ∃ cl oc od kV doc pm an cdv ct osl, K.lookup f = some ⟨oc, od, .func (PySem.W.fnX d.name d.qual (defArgs d.st) (defBody d.st) (defScope d.st) cl .none kV doc pm an cdv ct), osl⟩ ∧ cl.map (·.1) = d.clo ∧ PySem.W.codeIn K cdv d.qual = true ∧ PySem.W.keepIn K (.ref f) = true := by
  obtain ⟨kp, c2⟩ := ba c
  unfold fnQ at e
  cases q : K.lookup f with
  | none =>
    rw [q] at c2
    cases c2
  | some o =>
    obtain ⟨oc, od, dt, osl⟩ := o
    rw [q] at c2 e
    cases dt with
    | func fd =>
      obtain ⟨n1, n2, n3, n4, n5, n6, n7, n8, n9, n10, n11, n12, n13, n14, n15⟩ := fd
      have e2 : (some (n1, n2, n3, n4, n5, n6, n7.map (·.1), n15) : FnQ) = some (d.name, d.qual, defArgs d.st, .stmts (defBody d.st), defScope d.st, mainGlobals, d.clo, builtinsNs) := e
      simp only [Option.some.injEq, Prod.mk.injEq] at e2
      obtain ⟨h1, h2, h3, h4, h5, h6, h7, h8⟩ := e2
      subst h1 h2 h3 h4 h5 h6 h8
      have c3 : (PySem.W.codeIn K n13 d.qual && nonB n8) = true := c2
      obtain ⟨k1, k2⟩ := ba c3
      have e8 := nonB_ok k2
      subst e8
      exact ⟨n7, oc, od, n9, n10, n11, n12, n13, n14, osl, rfl, h7, k1, kp⟩
    | _ => cases c2
theorem mdef_ok {K : PySem.W.Frag} {x qual : Str} {st : Stmt} {f : Addr} (e : fnQ K f = DefQ.val ⟨fun _ => f, x, qual, st, []⟩) (c : mdB K f qual = true) : MDef K x qual st f := by
  obtain ⟨cl, oc, od, kV, doc, pm, an, cdv, ct, osl, l, hc, k1, kp⟩ := fnQ_ok e c
  cases cl with
  | nil => exact mdef_in l k1 kp
  | cons p r => cases hc
theorem defin_ok {K : PySem.W.Frag} {x : Str} {st : Stmt} {f : Addr} (a : PySem.W.nsIn K mainGlobals x = some (some (.ref f))) (e : fnQ K f = DefQ.val ⟨fun _ => f, x, x, st, []⟩) (c : mdB K f x = true) : DefIn K x st := by
  obtain ⟨oc, od, kV, dc, pm, an, cd, ct, sl, l, c, k⟩ := mdef_ok e c
  exact def_in a l c k
section
variable {fs : List (List Fq)} {ds : List (List DefQ)} {K : PySem.W.Frag}
theorem SaysQ.fact (c : SaysQ fs ds K) (i j : Nat) {f : Fq} (h : fs[i]?.bind (·[j]?) = some f := by rfl) : f K = true := by
  have c1 : (fs.all fun l => l.all fun f => f K) = true := congrArg (fun z : AlQ => z.1) c
  cases q : fs[i]? with
  | none =>
    rw [q] at h
    cases h
  | some l =>
    rw [q] at h
    exact List.all_eq_true.mp (List.all_eq_true.mp c1 l (List.mem_of_getElem? q)) f (List.mem_of_getElem? h)
theorem SaysQ.def_ (c : SaysQ fs ds K) (i j : Nat) {d : DefQ} (h : ds[i]?.bind (·[j]?) = some d := by rfl) : fnQ K (d.at_ K) = d.val := by
  have e : (ds.map fun l => l.map fun d => fnQ K (d.at_ K)) = ds.map fun l => l.map DefQ.val := congrArg (fun z : AlQ => z.2) c
  cases q : ds[i]? with
  | none =>
    rw [q] at h
    cases h
  | some l =>
    rw [q] at h
    have e2 : (ds.map fun l => l.map fun d => fnQ K (d.at_ K))[i]? = (ds.map fun l => l.map DefQ.val)[i]? := by rw [e]
    rw [List.getElem?_map, List.getElem?_map, q] at e2
    have e3 : (l.map fun d => fnQ K (d.at_ K)) = l.map DefQ.val := Option.some.inj e2
    have e4 : (l.map fun d => fnQ K (d.at_ K))[j]? = (l.map DefQ.val)[j]? := by rw [e3]
    rw [List.getElem?_map, List.getElem?_map, show l[j]? = some d from h] at e4
    exact Option.some.inj e4
end
end Hq
namespace Dw
open PySem PySem.Spec PyProof.Rows L2
open LamX (Tabs TabS CodeO TabB)
theorem lawGTs {P : Program} {w : World} {K : PySem.W.Frag} {mg mb : Str → Option Value} {k : Nat} {fa a : Addr} {cs : List (Addr × Addr)} {fd : FuncData} {x : Str} {sp : Sp} {s₁ : Shared} {vs : List Value} {ns : List Int}
    (kin : K.In s₁.heap) (hns : s₁.heap.Ns mainGlobals mg) (hb : s₁.heap.Ns builtinsNs mb) (hbb : ∀ x : Str, x ≠ "__name__" → mb x = bootBuiltins x) (lim : s₁.heap.NoLimit) (hgens : s₁.gens = #[])
    (bm : ∃ (bm : Addr) (ob : Obj), mg "__builtins__" = some (.ref bm) ∧ bm ≠ builtinsNs ∧ s₁.heap.get? bm = some ob ∧ ob.cls = .type "module" ∧ ob.dict = some builtinsNs ∧ ob.data = .plain)
    (hP : ∀ p ∈ cs, s₁.heap.get? p.2 = some { cls := .none, data := .fields #[] }) (nP : ∀ p ∈ cs, K.lookup p.2 = none) (hC : ∀ p ∈ cs, PySem.W.codeHdIn K p.1 p.2 = true)
    (ha : s₁.heap.get? a = some { cls := .type "list", data := .seq vs.toArray }) (hi : IntsAre vs ns) (hl : ns.length ≤ sizeLine) (room : Room k callerA)
    (F : ∀ base : Heap, K.In base → base.Ns mainGlobals mg → (∀ p ∈ cs, TabB base mg p.1 p.2) → FnG P w K mg base CX0 k fa fd [x] sp) (hbind : ∀ (s : Shared) (u : Value), BindsTo s fd ⟨[u], []⟩ [(x, u)])
    (hsp : ∀ G : Hp, (∀ p ∈ cs, G p.2 = some (.tbl #[])) → (∀ p ∈ cs, a ≠ p.2) → SqL K G a (ns.map V.int) → sp [.ref a] G (fun v _ => v = .bl true) fun _ _ _ => False) :
    codeAny (model P w) callerA (.call (.ref fa) ⟨[.ref a], []⟩) (fun r s' => r = .ok (.ret (.bool true)) ∧ OldK s₁.heap s'.heap ∧ s'.os = s₁.os ∧ AllBare s'.gens) s₁ := by
  have rv := vals_ints hi
  have hT : ∀ b ∈ cs.map (·.2), s₁.heap.get? b = some { cls := .none, data := .fields #[] } := fun b hb => by
    obtain ⟨p, hp, e⟩ := List.mem_map.mp hb
    rw [← e]; exact hP p hp
  have nT : ∀ b ∈ cs.map (·.2), K.lookup b = none := fun b hb => by
    obtain ⟨p, hp, e⟩ := List.mem_map.mp hb
    rw [← e]; exact nP p hp
  have cT : ∀ b ∈ cs.map (·.2), ∃ c, PySem.W.codeHdIn K c b = true := fun b hb => by
    obtain ⟨p, hp, e⟩ := List.mem_map.mp hb
    rw [← e]; exact ⟨p.1, hC p hp⟩
  have apart : a ∉ cs.map (·.2) := fun z => by
    have q := hT a z
    rw [ha] at q
    exact nomatch (congrArg Obj.data (Option.some.inj q))
  have main : ∀ G : Hp, (∀ b, b ∈ cs.map (·.2) ∨ G b = none ∨ ∃ o xs, G b = some (.frz o (.lst xs))) → (∀ b ∈ cs.map (·.2), G b = some (.tbl #[])) → SqL K G a (ns.map V.int) → HOk P w G s₁.heap → (∀ b, G b ≠ none → b = a ∨ b ∈ cs.map (·.2)) → (G a ≠ none → K.lookup a = none) →
      codeAny (model P w) callerA (.call (.ref fa) ⟨[.ref a], []⟩) (fun r s' => r = .ok (.ret (.bool true)) ∧ OldK s₁.heap s'.heap ∧ s'.os = s₁.os ∧ AllBare s'.gens) s₁ := by
    intro G only tab sq hok two notK
    have below : ∀ {b : Addr} {o : Obj}, s₁.heap.get? b = some o → G b = none → (hidT s₁.heap G).get? b = some o := fun e n => hidT_get e n
    have free : ∀ {b : Addr} {o : Obj}, s₁.heap.get? b = some o → (∀ us n, o.data ≠ .seq us n) → o.data ≠ .fields #[] → G b = none := by
      intro b o e d1 d2
      cases q : G b with
      | none => rfl
      | some u =>
        rcases two b (by rw [q]; exact fun z => nomatch z) with rfl | z
        · rw [ha] at e
          cases e
          exact absurd rfl (d1 _ _)
        · rw [hT b z] at e
          cases e
          exact absurd rfl d2
    have spaces : ∀ {b : Addr} {m : Str → Option Value}, s₁.heap.Ns b m → (hidT s₁.heap G).Ns b m := by
      rintro b m ⟨o, es, ep, e, d, r⟩
      exact ⟨o, es, ep, below e (free e (fun us n z => by rw [d] at z; cases z) fun z => by rw [d] at z; cases z), d, r⟩
    have kinB : K.In (hidT s₁.heap G) := by
      intro b o e
      refine below (kin b o e) ?_
      cases q : G b with
      | none => rfl
      | some u =>
        rcases two b (by rw [q]; exact fun z => nomatch z) with rfl | z
        · rw [notK (by rw [q]; exact fun z => nomatch z)] at e
          cases e
        · rw [nT b z] at e
          cases e
    have hM : Mod K mg (hidT s₁.heap G) := ⟨kinB, spaces hns, ⟨mb, spaces hb, hbb⟩, let ⟨mc, z1, z2⟩ := lim; ⟨mc, spaces z1, z2⟩⟩
    have TB : ∀ p ∈ cs, TabB (hidT s₁.heap G) mg p.1 p.2 := fun p hp => by
      have gP : mainGlobals ≠ p.2 := fun z => by
        obtain ⟨o, es, ep, e, d, _⟩ := hns
        rw [z, hP p hp] at e
        cases e
        cases d
      refine ⟨PySem.W.codeHd_of_K kinB (hC p hp), ?_, gP⟩
      obtain ⟨bm, ob, b1, b2, b3, b4, b5, b6⟩ := bm
      refine ⟨bm, ob, b1, b2, fun z => ?_, fun z => ?_, below b3 (free b3 (fun us n z => by rw [b6] at z; cases z) fun z => by rw [b6] at z; cases z), b4, b5, b6⟩
      · obtain ⟨o, es, ep, e, d, _⟩ := hns
        rw [z, e] at b3
        cases b3
        rw [d] at b6
        cases b6
      · rw [z, hP p hp] at b3
        cases b3
        cases b6
    have e0 : Env0 P w K mg (hidT s₁.heap G) callerA [] s₁ G := ⟨rfl, hM, fun _ _ e => of_hidT e, Nat.le_of_eq (hidT_size _ _), trivial, (fun _ z => absurd z (List.not_mem_nil)), hok, .of_eq hgens⟩
    have go := (F _ kinB (spaces hns) TB).run callerA [] s₁ G ⟨[.ref a], []⟩ [.ref a] [.ref a] _ _ rfl room e0 (hbind s₁ (.ref a)) (.cons rfl .nil) (hsp G (fun p hp => tab _ (List.mem_map.mpr ⟨p, hp, rfl⟩)) (fun p hp z => apart (List.mem_map.mpr ⟨p, hp, z.symm⟩)) sq)
    refine codeAny_mono go fun r s' z => ?_
    cases r with
    | error e => exact z.elim
    | ok fl =>
      cases fl <;> first | exact False.elim z | skip
      rename_i u
      obtain ⟨v, G', os, bare, un, hok', r', q⟩ := z
      obtain rfl : v = .bl true := q
      obtain rfl : u = Value.bool true := r'
      have key : ∀ b o, b ∉ cs.map (·.2) → s₁.heap.get? b = some o → s'.heap.get? b = some o := fun b o nb e => by
        cases q : G b with
        | none => exact un.keep b o e q (fun z => nomatch z) (fun z => nomatch z)
        | some y =>
          rcases only b with z | z | ⟨ob, xs, z⟩
          · exact absurd z nb
          · rw [q] at z; cases z
          · have e1 := (hok b _ z).1
            have e2 := (hok' b _ (un.frzs b ob _ z)).1
            rw [e] at e1; cases e1
            exact e2
      have grown : ∀ b ∈ cs.map (·.2), ∃ more, s'.heap.get? b = some { cls := .none, data := .fields (#[] ++ more) } := fun b z => by
        obtain ⟨more, gr⟩ := un.tbls b #[] (tab b z)
        exact ⟨more, hok' b _ gr⟩
      refine ⟨rfl, ⟨fun b o e => ?_, fun b o e => ?_⟩, os, bare⟩
      · by_cases nb : b ∈ cs.map (·.2)
        · have e1 := e
          rw [hT b nb] at e1
          cases e1
          obtain ⟨c, hc⟩ := cT b nb
          obtain ⟨more, gr⟩ := grown b nb
          exact .inr (.inl ⟨((PySem.W.codeHd_of_K kin hc).tab (hT b nb)).isCodeTable, rfl, #[], more, rfl, gr⟩)
        · exact .inl (key b o nb e)
      · by_cases nb : b ∈ cs.map (·.2)
        · obtain ⟨more, gr⟩ := grown b nb
          exact ⟨_, gr⟩
        · exact ⟨o, key b o nb e⟩
  cases hk : K.lookup a with
  | some o =>
    have e := kin a o hk
    rw [ha] at e
    cases e
    refine main (fun b => if b ∈ cs.map (·.2) then some (.tbl #[]) else none) (fun b => ?_) (fun b z => if_pos z) (.inr ⟨_, vs.toArray, _, hk, rfl, rfl, rfl, ?_, by simpa using rv⟩) (fun b u z => ?_) (fun b z => ?_) fun z => absurd (if_neg apart) z
    · by_cases q : b ∈ cs.map (·.2)
      · exact .inl q
      · exact .inr (.inl (if_neg q))
    · rw [List.size_toArray, hi.length]; exact hl
    · by_cases q : b ∈ cs.map (·.2)
      · have z1 := (if_pos q).symm.trans z
        cases z1
        exact hT b q
      · exact nomatch (if_neg q).symm.trans z
    · by_cases q : b ∈ cs.map (·.2)
      · exact .inr q
      · exact absurd (if_neg q) z
  | none =>
    refine main (fun b => if b ∈ cs.map (·.2) then some (.tbl #[]) else if b = a then some (.frz { cls := .type "list", data := .seq vs.toArray } (.lst (ns.map V.int))) else none) (fun b => ?_) (fun b z => if_pos z) (.inl (.inr ⟨_, (if_neg apart).trans (if_pos rfl)⟩)) (fun b u z => ?_) (fun b z => ?_) fun _ => hk
    · by_cases q : b ∈ cs.map (·.2)
      · exact .inl q
      · by_cases q1 : b = a
        · exact .inr (.inr ⟨_, _, (if_neg q).trans (if_pos q1)⟩)
        · exact .inr (.inl ((if_neg q).trans (if_neg q1)))
    · by_cases q : b ∈ cs.map (·.2)
      · have z1 := (if_pos q).symm.trans z
        cases z1
        exact hT b q
      · by_cases q1 : b = a
        · have z1 := ((if_neg q).trans (if_pos q1)).symm.trans z
          cases z1
          subst q1
          exact ⟨ha, by rw [List.length_map]; exact hl, vs, _, rv, ha⟩
        · exact nomatch ((if_neg q).trans (if_neg q1)).symm.trans z
    · by_cases q : b ∈ cs.map (·.2)
      · exact .inr q
      · by_cases q1 : b = a
        · exact .inl q1
        · exact absurd ((if_neg q).trans (if_neg q1)) z
theorem law_startTs {K : PySem.W.Frag} {G : Hp} {a : Addr} {T : List (Addr × Str)} {ns : List Int} {S : WE} {E : XK} (hS : S [.d (.list (ns.map PyData.int))] fun r _ => r = .d (.bool true)) (t : ∀ y ∈ T, G y.1 = some (.tbl #[])) (n : ∀ y ∈ T, a ≠ y.1) (h : SqL K G a (ns.map V.int)) : spOfT T K S [.ref a] G (fun v _ => v = .bl true) E := by
  have na : ¬ inT T a := fun ⟨q, z⟩ => n _ z rfl
  have hm : SqL K (msk T G) a (ns.map V.int) := by
    rcases h with (h | ⟨o, h⟩) | h
    · exact .inl (.inl (by rw [msk_no na]; exact h))
    · exact .inl (.inr ⟨o, by rw [msk_no na]; exact h⟩)
    · exact .inr h
  obtain ⟨O, δ, Pd, R, w, f⟩ := law_start (E := E) hS hm
  exact ⟨fun y hy => TabS.nil (t y hy), O, δ, Pd, R, w, fun r δ' v H' p _ s R1 k => f r δ' v _ p s R1 k⟩
end Dw
namespace Hq
open PySem PySem.Spec PyProof.Rows L2 He Dw
open LamX (Tabs TabS CodeO TabB)
theorem defC_ok {K : PySem.W.Frag} {x : Str} {st : Stmt} {f : Addr} (a : PySem.W.nsIn K mainGlobals x = some (some (.ref f))) (e : fnQ K f = DefQ.val ⟨fun _ => f, x, x, st, []⟩) (c : mdB K f x = true) : DefInC K x st (cdAd K f) := by
  obtain ⟨oc, od, kV, dc, pm, an, cd, ct, sl, l, c1, k⟩ := mdef_ok e c
  obtain ⟨cc, ec⟩ := codeIn_ref c1
  subst ec
  have e2 : cdAd K f = cc := by
    unfold cdAd
    rw [l]
  rw [e2]
  exact def_inC a l c1 k
theorem walkGTE {l : PySem.W.OpenLaw} {n k : Nat} {q : Program} {loose : List Str} {XP : (Str → Option Value) → Heap → Prop} {YP : World → Heap → Prop} {d : DefRec} {sp : List (Addr × Addr) → PySem.W.Frag → Sp} {x : Str}
    (hn : l.most = some n) (hn2 : n ≤ sizeLine) (hdf : d.params.defaults = []) (room : Room k callerA)
    (F : ∀ (w : World) (mg : Str → Option Value) (fa : Addr) (h : Heap), YP w h → h.Ns mainGlobals mg → mg d.name = some (.ref fa) →
      ∃ (K : PySem.W.Frag) (cs : List (Addr × Addr)), K.In h ∧ (∀ p ∈ cs, h.get? p.2 = some { cls := .none, data := .fields #[] }) ∧ (∀ p ∈ cs, K.lookup p.2 = none) ∧ (∀ p ∈ cs, PySem.W.codeHdIn K p.1 p.2 = true) ∧
        ∃ fd : FuncData, (∀ (s : Shared) (u : Value), BindsTo s fd ⟨[u], []⟩ [(x, u)]) ∧ (∀ base : Heap, K.In base → base.Ns mainGlobals mg → (∀ p ∈ cs, TabB base mg p.1 p.2) → FnG l.prog w K mg base CX0 k fa fd [x] (sp cs K)) ∧
          ∀ (G : Hp) (a : Addr) (ns : List Int), ns.length ≤ n → (∀ p ∈ cs, G p.2 = some (.tbl #[])) → (∀ p ∈ cs, a ≠ p.2) → SqL K G a (ns.map V.int) → sp cs K [.ref a] G (fun v _ => v = .bl true) fun _ _ _ => False) :
    PySem.W.WalkO q loose XP YP l.row.toRowW d [] (fun f vs => PySem.call f vs) := by
  refine Att.attach_call hn hdf fun w s₀ s₁ mg mb fa o pm cd doc a vs ns G Y ho hd hcd hmg hobj hints hlen hg => ?_
  obtain ⟨K, cs, hK, hT, nP, hC, fd, hb, hF, hsp⟩ := F w mg fa _ Y G.T.g hmg
  exact lawGTs hK G.T.g G.T.b G.T.builtins G.T.nolimit hg G.T.bmain hT nP hC hobj hints (Nat.le_trans hlen hn2) room hF hb fun H hO hA hS => hsp H a ns hlen hO hA hS
end Hq
namespace Hq
open PySem PySem.Spec PyProof.Rows L2 He Dw
end Hq
namespace Dw
open PySem PySem.Spec PyProof.Rows L2
section
variable {X : Cx} {e a b c : Expr} {wn : WN} {we wb : WE} {x y : Str} {pos pos' px py pt pt2 : Pos} {kt k2 : Nat}
end
end Dw
namespace Dw
open PySem PySem.Spec PyProof.Rows L2
theorem dt_lelt {X : Cx} {a b c : Expr} {wa wb wc : WE} {pos : Pos} (ha : DE X a wa) (hb : DE X b wb) (hc : DE X c wc) (hm : lastMarks [.LtE, .Lt] [b, c] = false := by with_unfolding_all rfl) : DT X (.Compare a [.LtE, .Lt] [b, c] pos) (wB (wChain (rI1 fun i j => .bool (decide (i ≤ j))) (rI1 fun i j => .bool (decide (i < j))) wa wb wc)) :=
  pt_weak (pt_chain op_le op_lt ha hb hc hm) fun _ _ _ q => lift_chain (opd_I0 fun _ _ _ => .bl _) (opd_I0 fun _ _ _ => .bl _) (liftB q)
section
variable {X : Cx} {a b : Expr} {wn : WN} {wb : WE} {x y : Str} {pos px py pt pt2 : Pos} {kt k2 : Nat}
end
section
open LamX (Tabs)
variable {T : List (Addr × Str)} {X : Cx} {a b : Expr} {rest : List Expr} {wa wb : WE} {pos : Pos}
end
structure XfAt (K : PySem.W.Frag) (mg : Str → Option Value) (x f : Str) (C : Addr) : Prop where
  m : mg x = some (.ref C)
  T : XfC K C
  no : PySem.W.findIn K (.ref C) f = some none
  ex : PySem.W.exmOne K (.ref C) (.ref C) = some true
end Dw
namespace Dw
open PySem PySem.Spec PyProof.Rows L2
def spTr (C : Addr) : Sp := fun vs H Q _ => ∃ a y dx, vs = [V.ref a, y] ∧ H a = some (.ins C dx []) ∧ ∀ H', (∀ b o, b ≠ a → H b = some o → H' b = some o) → Q .non H'
structure TrAt (P : Program) (w : World) (K : PySem.W.Frag) (mg : Str → Option Value) (base : Heap) (k : Nat) (x : Str) : Prop where
  ex : ∃ C f, mg x = some (.ref C) ∧ L2.Mk K C f ∧ FnRG P w K mg base CX0 k f (spTr C)
end Dw
namespace Dw
open PySem PySem.Spec PyProof.Rows L2
open LamX (Tabs)
end Dw
namespace Dw
open PySem PySem.Spec PyProof.Rows L2
abbrev WAo := Dl → (List Rv → Dl → Prop) → PXo → Prop
section
variable {X : Cx} {W : WX} {e a b : Expr} {es : List Expr} {ua : WA} {eo : WEo} {uo : WAo} {wb : WE} {x : Str} {p pos : Pos} {k : Nat} {S : WE}
def o2 (R : R2D) (eo : WEo) (wb : WE) : WEo := fun δ P PX => eo δ (fun r δ1 => wb δ1 fun s δ2 => still r δ2 (R r.as s.as fun z => P z δ2)) PX
end
section
variable {X : Cx} {e : Expr} {es : List Expr} {u : WG1} {x y m : Str} {p pos py apos : Pos} {k : Nat} {S : WEo} {ns : List Str} {eo : WEo} {wo : WSo} {st : Stmt} {wb : WE}
end
structure MSi (P : Program) (w : World) (K : PySem.W.Frag) (mg : Str → Option Value) (base : Heap) (k : Nat) (ns : List Str) (S : WE) : Prop where
  at_ : ∀ n ∈ ns, ∃ C f, nsAt K n C ∧ PySem.W.findIn K (.ref C) "__contains__" = some (some (.ref f)) ∧ PySem.W.isFn K (.ref f) = true ∧ FnRG P w K mg base CX0 k f (spOf K (onN n S))
section
variable {X : Cx} {b : Expr} {y : Str} {py pos : Pos} {k : Nat} {S : WE} {ns : List Str} {wb : WE}
end
end Dw
namespace Dw
open PySem PySem.Spec PyProof.Rows L2
section
variable {X : Cx} {a b c : Expr} {wn : WN} {wb : WE} {px py pz pt pos : Pos} {kt k2 : Nat} {pt2 : Pos} {x y z : Str} {n : Int}
end
end Dw
namespace Dw
open PySem PySem.Spec PyProof.Rows L2
def jsOk (t : Str) (i j : Int) : Prop := i.natAbs.log2 < 1920 ∧ j.natAbs.log2 < 1920 ∧ (Str.empty ++ toString i).length ≤ sizeLine ∧ ((Str.empty ++ toString i) ++ t).length ≤ sizeLine ∧ (((Str.empty ++ toString i) ++ t) ++ toString j).length ≤ sizeLine
def spXi2 (K : PySem.W.Frag) (C : Addr) (t f1 f2 : Str) : Sp := fun vs H Q _ => ∃ a i j, vs = [V.ref a, .int i, .int j] ∧ jsOk t i j ∧ H a = some (exo a C none) ∧ ∀ dx, H dx = none → dx ≠ a → Q .non (upd (upd H dx (exd dx [(f2, .int j), (f1, .int i)])) a (exo a C (some dx)))
structure XiAt2 (P : Program) (w : World) (K : PySem.W.Frag) (mg : Str → Option Value) (base : Heap) (k : Nat) (x t f1 f2 : Str) : Prop where
  ex : ∃ C fI, mg x = some (.ref C) ∧ OexC K C ∧ PySem.W.findIn K (.ref C) "__init__" = some (some (.ref fI)) ∧ PySem.W.typeIn K (.ref fI) = some (.type "function") ∧ FnRG P w K mg base CX0 k fI (spXi2 K C t f1 f2)
end Dw
namespace Dw
open PySem PySem.Spec PyProof.Rows L2
def XF (d : Option Addr) (f1 f2 : Str) (i1 i2 : Int) (G : Hp) : Prop := ∃ dd us, d = some dd ∧ G dd = some (.xd us) ∧ us.lookup f1 = some (V.int i1) ∧ us.lookup f2 = some (V.int i2)
theorem XF.mv {d : Option Addr} {f1 f2 : Str} {i1 i2 : Int} {G G' : Hp} (h : XF d f1 f2 i1 i2 G) (s : Same G G') : XF d f1 f2 i1 i2 G' := by
  obtain ⟨dd, us, e1, e2, e3, e4⟩ := h
  exact ⟨dd, us, e1, s _ _ e2, e3, e4⟩
end Dw
namespace Dw
open PySem PySem.Spec PyProof.Rows L2
open LamX (LamS lamCx lamEnv CodeO Tabs TabB)
def SayO2 (fo : Str → List (Str × PyData) → Prop) (wx : WEo) (ns : List Str) (wd : Str → Str) (δ : Dl) (PS : Str → Dl → Prop) : Prop := wx δ (fun r δ' => noB r = true ∧ showOk r.as ∧ PS r.as.shown δ') (fun n fs δ' => n ∈ ns ∧ fo n fs ∧ PS (wd n) δ')
def SaidBodyO2 (P : Program) (w : World) (K : PySem.W.Frag) (mg : Str → Option Value) (base : Heap) (k : Nat) (x : Str) (st : Stmt) (Ng : List Str) (y : Str) (g : Addr) (cdg : Value) (fo : Str → List (Str × PyData) → Prop) (ns : List Str) (wd : Str → Str) : Prop :=
  ∀ (A : Around) (outer : List Env) (s : Shared) (H : Hp) (f c : Addr) (q : Str) (σm : L2.St) (wx : WEo), A.guards = some [] → Room k (A.deeper (envOfC x (defScope st) s.heap.objs.size g cdg)) →
    (∀ (W : WX) (pn : List (Addr × Obj)) (xe : Value → Shared → Prop) (p1 p2 : Pos), Takes ((cxOf CX0 P w K mg base Ng x (defScope st) g cdg A outer s H E0).tr pn xe) W →
      PE ((cxOf CX0 P w K mg base Ng x (defScope st) g cdg A outer s H E0).tr pn xe) (.Call (.Name y p1) [] [] p2) (fun τ HZ Q => τ[0]? = some (some (.ref f)) ∧ HZ c = some (CodeO c q) ∧ liftEo K mg (fun cls d _ H' => W cls d τ H') wx σm HZ Q)) →
    H c = some (CodeO c q) → ∀ (O : Addr → Prop) (δ : Dl) (PS : Str → Dl → Prop) (Q : VK), Rep K O δ σm H → SayO2 fo wx ns wd δ PS → (∀ z δ' H', PS z δ' → Stp O δ δ' σm H H' → Rep K O δ' σm H' → Q (.str z) H') →
    ∃ t, PSs (cxOf CX0 P w K mg base Ng x (defScope st) g cdg A outer s H E0).nox (defBody st) t ∧ t { nx := fun _ G => Q .non G, rt := Q } (L2.start Ng [.ref f]) H
structure SaidFnO2 (P : Program) (w : World) (K : PySem.W.Frag) (mg : Str → Option Value) (base : Heap) (k : Nat) (x : Str) (fo : Str → List (Str × PyData) → Prop) (ns : List Str) (wd : Str → Str) : Prop where
  ex : ∃ (g : Addr) (oc : Value) (od : Option Addr) (st : Stmt) (kV doc pm : Value) (an : Option Addr) (cdg ct : Value) (osl : Array (Option Value)) (Ng : List Str) (y : Str),
    mg x = some (.ref g) ∧ PySem.W.keepIn K (.ref g) = true ∧ K.lookup g = some ⟨oc, od, .func (PySem.W.fnOf x x (defArgs st) (defBody st) (defScope st) .none kV doc pm an cdg ct), osl⟩ ∧ PySem.W.codeIn K cdg x = true ∧
    Binds K (PySem.W.fnOf x x (defArgs st) (defBody st) (defScope st) .none kV doc pm an cdg ct) [y] [] ∧ FnScope Ng [y] (defScope st) ∧ Ng[0]? = some y ∧ Vis (defScope st) y ∧ (y == ("__debug__" : Str)) = false ∧ (y == ("__classdict__" : Str)) = false ∧ SaidBodyO2 P w K mg base k x st Ng y g cdg fo ns wd
end Dw
namespace HN
open PySem PySem.Spec PyProof.Rows PySem.SeqAt
section
variable {M : Model} {prog : Program} {w : World} {A : Around} {E : Value → Shared → Prop} {s : Shared} {K : PySem.W.Frag} {x C f : Addr} {ox : Obj} {od : Option Obj} {b : Value}
end
end HN
namespace Dw
open PySem PySem.Spec PyProof.Rows L2
structure MSe (P : Program) (w : World) (K : PySem.W.Frag) (mg : Str → Option Value) (base : Heap) (k : Nat) (ns : List Str) (S : WE) : Prop where
  at_ : ∀ n ∈ ns, ∃ C f, nsAt K n C ∧ PySem.W.findIn K (.ref C) "__eq__" = some (some (.ref f)) ∧ PySem.W.isFn K (.ref f) = true ∧ PySem.W.mroIn K C (.type "object") = some true ∧ PySem.W.findIn K (.ref C) "__ne__" = some (some (.builtin "object.__ne__")) ∧ FnRG P w K mg base CX0 k f (spOf K (onN n S))
section
variable {X : Cx} {k : Nat} {ns : List Str} {S : WE} {y z : Str} {py pz pos : Pos}
end
end Dw
namespace Dw
open PySem PySem.Spec PyProof.Rows L2
section
variable {K : PySem.W.Frag} {O O' : Addr → Prop} {δ δ' : Dl} {σ : L2.St} {H H' : Hp}
end
section
variable {X : Cx} {k : Nat} {ns : List Str} {S : WE} {y : Str} {py pos : Pos} {e : Expr} {wn : WN}
end
end Dw
namespace Dw
open PySem PySem.Spec PyProof.Rows L2
structure ClsI (K : PySem.W.Frag) (ns : List Str) (C : Addr) (b : Str → Bool) : Prop where
  hn : PySem.W.specialIn K (.builtin "object.__class__") "__get__" = some (some (.builtin "getset_descriptor.__get__"))
  tk : PySem.W.takesIn K (.builtin "object.__class__") = some true
  at_ : ∀ n ∈ ns, ∃ D, nsAt K n D ∧ Cls K D ∧ PySem.W.findIn K (.ref D) "__class__" = some (some (.builtin "object.__class__")) ∧ PySem.W.mroIn K D (.type "object") = some true ∧ PySem.W.kitOne K (.ref D) (.ref C) = some (b n)
end Dw
namespace Dw
open PySem PySem.Spec PyProof.Rows L2
end Dw
namespace Dw
open PySem PySem.Spec PyProof.Rows L2
def wMakeF (S : WIn) (u : WA) : WE := fun δ P => u δ fun rs δ1 => rs.all noB = true ∧ match rs.map Rv.as with
  | m :: rest => rest.length ≤ 1000 ∧ ∃ mm : Int, (∀ a dx, S ⟨"Sheet", a, dx, []⟩ [m, .tuple rest] fun o' => o'.n = "Sheet" ∧ o'.fs.lookup ("columns" : Str) = some (.d (.int mm)) ∧ o'.fs.lookup ("held" : Str) = some (.d (.tuple [])) ∧ o'.fs.lookup ("NAME" : Str) = none) ∧ P (.d (obD mm)) δ1
  | [] => False
section
variable {X : Cx} {k : Nat} {S : WIn} {e : Expr} {es : List Expr} {ua : WA} {p pos : Pos}
theorem de_makeF (M : MI X.prog X.w X.K X.mg X.base k "Sheet" S) (g0 : X.A.guards = some []) (hr : Room (k + 1) X.A) (hg : Gl X "Sheet") (ha : DA X (e :: es) ua) (hdb : (("Sheet" : Str) == ("__debug__" : Str)) = false := by decide)
    (he : starEach (e :: es) X.env = (false, eval e X.env) :: starEach es X.env := by rfl) (hpl : (backTo pos (starEach es X.env)).any (·.1) = false := by rfl) : DE X (.Call (.Name "Sheet" p) (e :: es) [] pos) (wMakeF S ua) := by
  obtain ⟨C, f, hC, hm, mk, F⟩ := M.ex
  refine pe_weak (pe_makeG mk F g0 hr hg hm ha hdb he hpl) fun σ H Q ⟨O, δ, P, R0, w, g⟩ => ?_
  refine ⟨O, δ, _, R0, w, fun rs δ1 vs H1 w1 s1 R1 k1 x dx hx hdx nx => ?_⟩
  obtain ⟨w0, w1⟩ := w1
  have da := RvsOk.dp R0 R1 k1 w0
  split at w1
  · rename_i m rest em
    rw [em] at da
    obtain ⟨hl, mm, w1, w1'⟩ := w1
    cases da with
    | cons d1 d2 =>
      rename_i v vs'
      have nO : ∀ {a : Addr}, H1 a = none → ¬ O a := fun {a} z oa => by
        obtain ⟨u, q⟩ := R1.occ a oa
        rw [z] at q; cases q
      have up : ∀ {a : Addr} {u : HO}, H1 a = some u → upd (upd H1 dx (.own x)) x (.ins C dx []) a = some u := fun {a u} q => by
        rw [upd_ne (ne_of_none q hx), upd_ne (ne_of_none q hdx)]; exact q
      have free : ∀ {a : Addr}, upd (upd H1 dx (.own x)) x (.ins C dx []) a = none → H1 a = none := fun {a} z => by
        cases q : H1 a with
        | none => rfl
        | some u => rw [up q] at z; cases z
      have same : Same (hid H1 O) (hid (upd (upd H1 dx (.own x)) x (.ins C dx [])) fun a => O a ∨ a = x) := fun b u q => by
        obtain ⟨nb, q'⟩ := hid_some q
        rw [hid_no (fun z => z.elim nb (ne_of_none q' hx))]; exact up q'
      have ob : ObAt X.K (fun a => O a ∨ a = x) (upd (upd H1 dx (.own x)) x (.ins C dx [])) ⟨"Sheet", x, dx, []⟩ := ⟨⟨C, [], hC, upd_same, trivial⟩, .inr rfl, List.nodup_cons.mpr ⟨List.not_mem_nil, List.nodup_nil⟩⟩
      have occ : ∀ a, (O a ∨ a = x) → ∃ u, upd (upd H1 dx (.own x)) x (.ins C dx []) a = some u := fun a z => by
        rcases z with z | z
        · obtain ⟨u, q⟩ := R1.occ a z
          exact ⟨u, up q⟩
        · subst z; exact ⟨_, upd_same⟩
      have R2 := rep_obj (ds := [m]) (vs := [v]) (DpAll.cons (Dp.up d1 same) .nil) occ ob
      refine ⟨_, _, [m], [.ref x, v], vs', rest, _, rfl, R2, DpAll.up d2 same, hl, rfl, ⟨rfl, w1 x dx⟩, fun O' o' H' po I => ⟨rfl, ?_⟩⟩
      have eo : o'.a = x := I.ea
      have fr : ∀ a, O a → H' a = H1 a := fun a oa => by
        obtain ⟨u, q⟩ := R1.occ a oa
        have nx' := ne_of_none q hx
        rw [I.fr a (.inl oa) fun m => (List.mem_cons.mp m).elim nx' fun z => (nomatch z), up q, q]
      have fresh1 : ∀ a, O' a → O a ∨ H1 a = none := fun a z => by
        rcases I.new a z with (z | z) | z
        · exact .inl z
        · exact .inr (z ▸ hx)
        · exact .inr (free z)
      have back : ∀ {a : Addr}, H1 a = none → H a = none := fun {a} z => s1.tr.back R0 R1 z
      have sameT : Same (hid H1 O) (hid H' O') := same.trans I.same
      have sub : ∀ a, O a → O' a := fun a z => I.sub a (.inl z)
      have sameO : Same (hid H1 O) (hid H' O) := sameT.trans (hid_sub sub)
      have R' : Rep X.K O δ1 σ H' := R1.mv sameO fr
      have st : Stp O δ1 δ1 σ H1 H' := ⟨sameO, fun a oa _ => fr a oa, fun _ => Iff.rfl, fun _ _ => Iff.rfl, dct_refl⟩
      obtain ⟨p0, p1, p2, p3⟩ := po
      obtain ⟨C', us, c1, c2, c3⟩ := I.ob.at_
      obtain ⟨v1, l1, v1'⟩ := fs_some c3 p1
      obtain ⟨v2, l2, v2'⟩ := fs_some c3 p2
      have l3 := fs_none c3 p3
      have v1'' : Dp X.K (hid H' O') v1 (.int mm) := v1'
      have v2'' : Dp X.K (hid H' O') v2 (.tuple []) := v2'
      cases v1''
      cases v2'' with
      | @tup b xs _ h1 h2 =>
        cases h2
        have h1' := hid_sub sub _ _ h1
        have c2' : hid H' O o'.a = some (.ins C' o'.dx us) := by rw [hid_no (by rw [eo]; exact nO hx)]; exact c2
        rw [← eo]
        exact g _ _ _ _ w1' (s1.trans st) R' (show Dp X.K (hid H' O) (.ref o'.a) (obD mm) from .ob c2' (by have := c1; rw [p0] at this; exact this) l1 l2 l3 h1')
  · exact w1.elim
end
end Dw
namespace Dw
open PySem PySem.Spec PyProof.Rows L2
section
variable {X : Cx} {a b : Expr} {wa wb : WE} {pos : Pos}
end
end Dw
namespace Dw
open PySem PySem.Spec PyProof.Rows L2
section
variable {X : Cx} {a b : Expr} {wa wb : WE} {pos : Pos}
end
end Dw
namespace Dw
open PySem PySem.Spec PyProof.Rows L2
section
variable {X : Cx} {a b : Expr} {wa wb : WE} {pos : Pos}
end
end Dw
namespace Dw
open PySem PySem.Spec PyProof.Rows L2
structure EqDK (P : Program) (w : World) (K : PySem.W.Frag) (mg : Str → Option Value) (base : Heap) (k : Nat) (S : WE) : Prop where
  at_ : ∃ C f, nsAt K "Sheet" C ∧ PySem.W.findIn K (.ref C) "__eq__" = some (some (.ref f)) ∧ PySem.W.isFn K (.ref f) = true ∧ FnRN P w K mg base CX0 k f (spOf K S)
  tell : ∀ m t P, P (.d (.bool false)) [.d (obD m), .d (.str t)] → S [.d (obD m), .d (.str t)] P
section
variable {X : Cx} {k : Nat} {S : WE}
structure StI (K : PySem.W.Frag) (mg : Str → Option Value) : Prop where
  at_ : ∃ C, mg "Sheet" = some (.ref C) ∧ PySem.W.kitOne K (.type "str") (.ref C) = some false
end
end Dw
namespace Dw
open PySem PySem.Spec PyProof.Rows L2 SrtT
section
variable {X : Cx} {a b : Expr} {ta : TE} {wa wb : WE} {p p2 q pos : Pos}
end
end Dw
namespace Dw
open PySem PySem.Spec PyProof.Rows L2
section
variable {X : Cx} {e : Expr} {we : WE} {k : Nat} {p1 p2 p3 pos : Pos}
def wSliceS (w : WE) (wl wh : WO) : WE := fun δ P => w δ fun r δ1 => wl δ1 fun lo δ2 => wh δ2 fun hi δ3 => ∃ z : Str, r = .d (.str z) ∧ z.length ≤ sizeLine ∧ P (.d (.str (Txt.slice z lo hi))) δ3
theorem de_sliceS {lo hi : Option Expr} {wl wh : WO} (h : DE X e we) (hl : DO X lo wl) (hh : DO X hi wh) : DE X (.Subscript e (.Slice lo hi none p2) pos) (wSliceS we wl wh) := by
  refine pe_weak (pe_slice C8.sl_txt h hl hh) fun σ H Q ⟨O, δ, P, R0, w, f⟩ => ?_
  refine ⟨O, δ, _, R0, w, fun r δ1 v H1 w1 s1 R1 k1 => ?_⟩
  refine ⟨O, δ1, _, R1, w1, fun l δ2 H2 w2 s2 R2 => ?_⟩
  refine ⟨O, δ2, _, R2, w2, fun u δ3 H3 w3 s3 R3 => ?_⟩
  obtain ⟨z, rfl, hz, w3⟩ := w3
  have k1 : Dp X.K (hid H1 O) v (.str z) := k1
  cases k1
  exact ⟨z, rfl, hz, f _ _ _ _ w3 ((s1.trans s2).trans s3) R3 (.str _)⟩
end
end Dw
namespace Dw
open PySem PySem.Spec PyProof.Rows L2
section
variable {X : Cx} {k : Nat} {ns : List Str} {S : WE} {y z : Str} {py pz pos : Pos} {e : Expr} {wn : WN}
end
end Dw
namespace Dw
open PySem PySem.Spec PyProof.Rows L2
end Dw
namespace Dw
open PySem PySem.Spec PyProof.Rows L2
end Dw
namespace Dw
open PySem PySem.Spec PyProof.Rows L2
section
variable {X : Cx} {a b e o : Expr} {es : List Expr} {wa wb we wo : WE} {ua : WA} {tg : Expr} {p p2 pos apos c0 : Pos} {j : Nat}
def rLenSD : RCD := fun ds P => match ds with
  | [.str z] => z.length ≤ sizeLine ∧ P (.d (.int (z.length : Nat)))
  | _ => False
theorem cd_lenS {K : PySem.W.Frag} : CallD K (fun xs H Q => ∃ z, xs = [.str z] ∧ z.length ≤ sizeLine ∧ Q (.int (z.length : Nat)) H) rLenSD := by
  intro G H xs ds P Q h s r f
  unfold rLenSD at r
  split at r
  · rename_i z
    obtain ⟨v, rfl, hv⟩ := dq1 h
    have e := hv.str
    subst e
    exact ⟨z, rfl, r.1, f.1 _ _ r.2 (.int _)⟩
  · exact r.elim
theorem de_lenS (hg : Gl X "len") (hm : X.mg "len" = none) (ha : DA X [e] ua) (he : starEach [e] X.env = (false, eval e X.env) :: starEach [] X.env := by rfl) : DE X (.Call (.Name "len" p) [e] [] pos) (wCB rLenSD ua) :=
  de_cb call_len_str cd_lenS hg hm (by decide +kernel) ha (he := he)
def rIntSD : RCD := fun ds P => match ds with
  | [.str z] => ∃ n, PySem.intText? z = some n ∧ z.length ≤ 640 ∧ P (.d (.int n))
  | _ => False
theorem cd_intS {K : PySem.W.Frag} : CallD K (fun xs H Q => ∃ a n, xs = [.str a] ∧ PySem.intText? a = some n ∧ a.length ≤ 640 ∧ Q (.int n) H) rIntSD := by
  intro G H xs ds P Q h s r f
  unfold rIntSD at r
  split at r
  · rename_i z
    obtain ⟨v, rfl, hv⟩ := dq1 h
    have e := hv.str
    subst e
    obtain ⟨n, r1, r2, r3⟩ := r
    exact ⟨z, n, rfl, r1, r2, f.1 _ _ r3 (.int _)⟩
  · exact r.elim
theorem de_intS (hg : Gl X "int") (hm : X.mg "int" = none) (ha : DA X [e] ua) (he : starEach [e] X.env = (false, eval e X.env) :: starEach [] X.env := by rfl) : DE X (.Call (.Name "int" p) [e] [] pos) (wCB rIntSD ua) :=
  de_cty call_int_str cd_intS hg hm (by decide +kernel) ha (he := he)
theorem op_notin_sign : OpR X (compareOp .NotIn) (fun x y H Q => ∃ (c : Nat) (z : Str), x = .str ⟨#[c]⟩ ∧ y = .str z ∧ Q (.bl (!decide (c ∈ z.cps.toList))) H) := by
  intro pins s σ H x y v u Q I rx ry ⟨c, z, e1, e2, q⟩
  refine op_notin_str pins s σ H x y v u Q I rx ry ⟨_, _, e1, e2, ?_⟩
  rw [PySem.StrLaws.found_one z c]
  exact q
def rInSg (neg : Bool) : R2D := fun d e P => ∃ (c : Nat) (z : Str), d = .str ⟨#[c]⟩ ∧ e = .str z ∧ P (.d (.bool (decide (c ∈ z.cps.toList) != neg)))
theorem opd_inSg {K : PySem.W.Frag} : OpD K (fun x y H Q => ∃ (c : Nat) (z : Str), x = .str ⟨#[c]⟩ ∧ y = .str z ∧ Q (.bl (decide (c ∈ z.cps.toList))) H) (rInSg false) := by
  intro G H x y d e P Q hx hy s ⟨c, z, ed, ee, r⟩ f
  subst ed ee
  refine ⟨c, z, hx.str, hy.str, f.1 _ _ r ?_⟩
  have : (decide (c ∈ z.cps.toList) != false) = decide (c ∈ z.cps.toList) := by cases decide (c ∈ z.cps.toList) <;> rfl
  rw [this]
  exact .bl _
theorem opd_ninSg {K : PySem.W.Frag} : OpD K (fun x y H Q => ∃ (c : Nat) (z : Str), x = .str ⟨#[c]⟩ ∧ y = .str z ∧ Q (.bl (!decide (c ∈ z.cps.toList))) H) (rInSg true) := by
  intro G H x y d e P Q hx hy s ⟨c, z, ed, ee, r⟩ f
  subst ed ee
  refine ⟨c, z, hx.str, hy.str, f.1 _ _ r ?_⟩
  have : (decide (c ∈ z.cps.toList) != true) = !decide (c ∈ z.cps.toList) := by cases decide (c ∈ z.cps.toList) <;> rfl
  rw [this]
  exact .bl _
theorem de_inSg (ha : DE X a wa) (hb : DE X b wb) (hm : behindInMarks .In b = false := by first | exact nobehind _ (by decide) (by decide) | rfl) : DE X (.Compare a [.In] [b] pos) (w2 (rInSg false) wa wb) := de_cmp op_in_sign opd_inSg ha hb hm
theorem dt_ninSg (ha : DE X a wa) (hb : DE X b wb) (hm : behindInMarks .NotIn b = false := by first | exact nobehind _ (by decide) (by decide) | rfl) : DT X (.Compare a [.NotIn] [b] pos) (wB (w2 (rInSg true) wa wb)) := dt_cmp2 op_notin_sign opd_ninSg ha hb hm
def wSeqS (w : WE) : WI := fun δ P => w δ fun r δ1 => ∃ z : Str, r = .d (.str z) ∧ P (z.cps.toList.map fun c => PyData.str ⟨#[c]⟩) δ1
theorem walkd_str {K : PySem.W.Frag} {G : Hp} {z : Str} : WalkD K G (Its z) (z.cps.toList.map fun c => PyData.str ⟨#[c]⟩) := by
  refine ⟨fun _ => True, fun i H v H' => H' = H ∧ ∃ c, z.cps[i]? = some c ∧ v = .str ⟨#[c]⟩, ?_, fun _ _ => trivial, fun i H1 x H2 d e _ y => ?_⟩
  · have : (z.cps.toList.map fun c => PyData.str ⟨#[c]⟩).length = z.cps.size := by rw [List.length_map, Array.length_toList]
    rw [this]
    exact walk_str
  · obtain ⟨y1, c, y2, y3⟩ := y
    subst y1 y3
    rw [List.getElem?_map, Array.getElem?_toList, y2] at e
    cases e
    exact .inl ⟨rfl, .str _⟩
theorem di_str (h : DE X e we) : DI X tg e (wSeqS we) := by
  refine pi_weak (pi_str h) fun σ H R ⟨O, δ, P, R0, w, f⟩ => ?_
  refine ⟨O, δ, _, R0, w, fun r δ1 v H1 w1 s1 R1 k1 => ?_⟩
  obtain ⟨z, rfl, w1⟩ := w1
  have k1 : Dp X.K (hid H1 O) v (.str z) := k1
  cases k1
  exact ⟨z, rfl, f _ _ _ _ w1 s1 R1 walkd_str⟩
def wSplit (w : WE) (t : Str) : WE := fun δ P => w δ fun r δ1 => ∃ z : Str, r = .d (.str z) ∧ z.length + 2 ≤ sizeLine ∧ P (.l ((Txt.split z t).map PyData.str)) δ1
theorem dp_strs {K : PySem.W.Frag} {G : Hp} : ∀ ys : List Str, DpAll K G (ys.map V.str) (ys.map PyData.str)
  | [] => .nil
  | y :: ys => .cons (.str y) (dp_strs ys)
theorem de_split {t : Str} (ho : DE X o wo) (ht : (t.length == 0) = false := by decide) (hs : starEach [.Constant (.str t) j c0] X.env = [(false, eval (.Constant (.str t) j c0) X.env)] := by rfl) (hbase : attributeBase o "split" X.env (eval o X.env) = eval o X.env := by rfl) (hline : (apos.endLine == pos.line) = true := by rfl) :
    DE X (.Call (.Attribute o "split" apos) [.Constant (.str t) j c0] [] pos) (wSplit wo t) := by
  refine pe_weak (pe_split ho pe_str hs hbase hline) fun σ H Q ⟨O, δ, P, R0, w, f⟩ => ?_
  refine ⟨O, δ, _, R0, w, fun r δ1 v H1 w1 s1 R1 k1 => ?_⟩
  obtain ⟨z, rfl, hz, w1⟩ := w1
  have k1 : Dp X.K (hid H1 O) v (.str z) := k1
  cases k1
  exact ⟨⟨z, rfl⟩, z, t, rfl, rfl, ht, hz, fun q hq => (fin_of R0 s1 R1 f).2.1 _ _ q w1 (dp_strs _) hq⟩
def wJoinT (t : Str) (w : WE) : WE := fun δ P => w δ fun r δ1 => ∃ ys : List Str, r.as = .list (ys.map PyData.str) ∧ (ys.map (·.length)).sum + ys.length * t.length ≤ 16777216 ∧ P (.d (.str (Txt.join t ys))) δ1
theorem strs_dp {K : PySem.W.Frag} {G : Hp} : ∀ {ys : List Str} {xs : List V}, DpAll K G xs (ys.map PyData.str) → xs = ys.map V.str
  | [], _, h => by cases h; rfl
  | y :: ys, _, h => by
    cases h with
    | cons h1 h2 => cases h1; rw [strs_dp h2]; rfl
theorem de_joinT {t : Str} (he : DE X e we) (hs : starEach [e] X.env = [(false, eval e X.env)] := by rfl) (hbase : attributeBase (.Constant (.str t) j c0) "join" X.env (eval (.Constant (.str t) j c0) X.env) = eval (.Constant (.str t) j c0) X.env := by rfl) (hline : (apos.endLine == pos.line) = true := by rfl) :
    DE X (.Call (.Attribute (.Constant (.str t) j c0) "join" apos) [e] [] pos) (wJoinT t we) := by
  refine pe_weak (pe_join pe_str he hs hbase hline) fun σ H Q ⟨O, δ, P, R0, w, f⟩ => ?_
  refine ⟨⟨t, rfl⟩, O, δ, _, R0, w, fun r δ1 v H1 w1 s1 R1 k1 => ?_⟩
  obtain ⟨ys, er, hz, w1⟩ := w1
  have dq := held0 R0 k1 R1
  rw [er] at dq
  obtain ⟨l, xs, rfl, sq, dx⟩ := dq.lst hid_le
  obtain rfl := strs_dp dx
  exact ⟨t, l, ys, rfl, rfl, .inl sq, hz, (fin_of R0 s1 R1 f).1 _ _ w1 (.str _)⟩
def wEndsW (w : WE) (t : Str) : WE := fun δ P => w δ fun r δ1 => ∃ z : Str, r = .d (.str z) ∧ P (.d (.bool (Txt.endswith z t))) δ1
theorem de_endsW {t : Str} (ho : DE X o wo) (hs : starEach [.Constant (.str t) j c0] X.env = [(false, eval (.Constant (.str t) j c0) X.env)] := by rfl) (hbase : attributeBase o "endswith" X.env (eval o X.env) = eval o X.env := by rfl) (hline : (apos.endLine == pos.line) = true := by rfl) :
    DE X (.Call (.Attribute o "endswith" apos) [.Constant (.str t) j c0] [] pos) (wEndsW wo t) := by
  refine pe_weak (pe_m1 F.slot_str_endswith F.type_str_endswith mt_endswith ho pe_str hs hbase hline) fun σ H Q ⟨O, δ, P, R0, w, f⟩ => ?_
  refine ⟨O, δ, _, R0, w, fun r δ1 v H1 w1 s1 R1 k1 => ?_⟩
  obtain ⟨z, rfl, w1⟩ := w1
  have k1 : Dp X.K (hid H1 O) v (.str z) := k1
  cases k1
  exact ⟨⟨z, rfl⟩, z, t, rfl, rfl, f _ _ _ _ w1 s1 R1 (.bl _)⟩
def wUpper (w : WE) : WE := fun δ P => w δ fun r δ1 => ∃ z : Str, r = .d (.str z) ∧ z.length ≤ 5592405 ∧ P (.d (.str (Txt.upper z))) δ1
theorem de_upper (ho : DE X o wo) (hbase : attributeBase o "upper" X.env (eval o X.env) = eval o X.env := by rfl) (hline : (apos.endLine == pos.line) = true := by rfl) :
    DE X (.Call (.Attribute o "upper" apos) [] [] pos) (wUpper wo) := by
  refine pe_weak (pe_upper ho hbase hline) fun σ H Q ⟨O, δ, P, R0, w, f⟩ => ?_
  refine ⟨O, δ, _, R0, w, fun r δ1 v H1 w1 s1 R1 k1 => ?_⟩
  obtain ⟨z, rfl, hz, w1⟩ := w1
  have k1 : Dp X.K (hid H1 O) v (.str z) := k1
  cases k1
  exact ⟨⟨z, rfl⟩, z, rfl, rfl, hz, f _ _ _ _ w1 s1 R1 (.str _)⟩
theorem rep_size {c : Array Nat} : ∀ (m : Nat) (a : Array Nat), ((List.replicate m c).foldl (· ++ ·) a).size = a.size + c.size * m
  | 0, a => rfl
  | m + 1, a => by
    rw [List.replicate_succ, List.foldl_cons, rep_size m, Array.size_append, Nat.mul_add, Nat.mul_one]; omega
theorem op_mulS : OpR X (binaryOp .Mult) (fun x y H Q => ∃ (z : Str) (k : Int), x = .str z ∧ y = .int k ∧ z.length ≤ 1000 ∧ 0 ≤ k ∧ k ≤ 1000 ∧ ∀ t : Str, t.length = z.length * k.toNat → Q (.str t) H) := by
  intro pins s σ H x y v u Q I rx ry ⟨z, k, e1, e2, hz, k0, k1, q⟩
  subst e1 e2
  obtain ⟨t, rfl⟩ := rx
  obtain ⟨t2, rfl⟩ := ry
  have hm : z.length * k.toNat ≤ 1000 * 1000 := Nat.mul_le_mul hz (by omega)
  refine P.mul_str (by
      have h1 : ¬ k < -(2 ^ 63 : Int) := by omega
      have h2 : ¬ k ≥ 2 ^ 63 := by omega
      rw [decide_eq_false h1, decide_eq_false h2]; rfl) (fun h1 _ => ?_) (fun _ _ => ?_) ?_
  · have : (1000 : Int) ≤ (2 ^ 63 - 1) / k := (Int.le_ediv_iff_mul_le (by omega)).mpr (by omega)
    omega
  · unfold PySem.Builtin.Str.tooLong
    exact decide_eq_false (by unfold sizeLine; omega)
  · by_cases h1 : k < 1
    · rw [if_pos h1]
      have : k = 0 := by omega
      subst this
      exact ⟨by decide, .str Str.empty, H, I.tok _, ⟨_, rfl⟩, q _ (by rfl)⟩
    · rw [if_neg h1]
      split
      · rename_i h2
        refine ⟨.str z, H, I, ⟨_, rfl⟩, q _ ?_⟩
        simp only [Bool.or_eq_true, beq_iff_eq] at h2
        rcases h2 with h2 | h2
        · subst h2; exact (Nat.mul_one _).symm
        · rw [h2, Nat.zero_mul]
      · have hl : (⟨(List.replicate k.toNat z.cps).foldl (· ++ ·) #[]⟩ : Str).length = z.length * k.toNat := by
          show ((List.replicate k.toNat z.cps).foldl (· ++ ·) #[]).size = _
          rw [rep_size]; show 0 + z.length * k.toNat = _; omega
        refine ⟨?_, .str _, H, I.tok _, ⟨_, rfl⟩, q _ hl⟩
        rw [hl]; exact Nat.le_trans hm (by decide)
end
end Dw
namespace Dw
open PySem PySem.Spec PyProof.Rows L2 CwR
def DEk (X : Cx) (e : Expr) (w : WE) : Prop := PET X e (lift X.K w)
def DAk (X : Cx) (es : List Expr) (u : WA) : Prop := PAT X es (liftA X.K u)
def DSk (X : Cx) (s : Stmt) (w : WS) : Prop := PST X s (liftS X.K w)
def DSsk (X : Cx) (s : List Stmt) (w : WS) : Prop := PSsT X s (liftS X.K w)
def PE1 (X : Cx) (e : Expr) (t : TE) : Prop :=
  ∀ (pins : List (Addr × Obj)) (s : Shared) (σ : L2.St) (H : Hp) (Q : VK), Inv X pins σ H s → t σ H Q → wpAny (model X.prog X.w) X.A (eval e X.env) (fun v s1 => 1 ≤ s1.toks ∧ EP X pins σ Q v s1) X.xe s
def PS1 (X : Cx) (st : Stmt) (t : TS) : Prop :=
  ∀ (pins : List (Addr × Obj)) (s : Shared) (σ : L2.St) (H : Hp) (D : Ends), Inv X pins σ H s → t D σ H → wpAny (model X.prog X.w) X.A (exec st X.env) (fun f s1 => 1 ≤ s1.toks ∧ SP X pins D f s1) X.xe s
def DE1 (X : Cx) (e : Expr) (w : WE) : Prop := PE1 X e (lift X.K w)
def DS1 (X : Cx) (s : Stmt) (w : WS) : Prop := PS1 X s (liftS X.K w)
section
variable {X : Cx} {st : Stmt} {rest : List Stmt} {e f o a b : Expr} {es : List Expr} {w w' we wo wa wb : WE} {ua : WA} {ws ws' : WS} {j k1 : Nat} {pos apos c0 c1 pos' px py pt : Pos} {x y : Str} {kt k2 pt2}
theorem more {α : Type} {t : Sem α} {Q : α → Shared → Prop} {E : Value → Shared → Prop} {M : Model} {A : Around} {s : Shared} (h0 : 1 ≤ s.toks) (h : wpAny M A t Q E s) : wpAny M A t (fun v s1 => 1 ≤ s1.toks ∧ Q v s1) E s :=
  wpAny_mono (PySem.wpAny_toks_of h0 h) (fun _ _ z => z) fun _ _ z => z.2
theorem DE.kk (h : DE X e w) : DEk X e w := fun pins s σ H Q _ I q => h.run pins s σ H Q I q
theorem DA.kk {u : WA} (h : DA X es u) : DAk X es u := fun pos pins s σ H Q _ I q => h.run pos pins s σ H Q I q
theorem DS.kk (h : DS X st ws) : DSk X st ws := PST.of h
theorem DSs.kk (h : DSs X rest ws) : DSsk X rest ws := PSsT.of h
def wReplC (w : WE) (y z : Str) : WE := fun δ P => w δ fun r δ1 => ∃ x : Str, r = .d (.str x) ∧ x.length + (x.length + 1) * z.length ≤ 16777216 ∧ P (.d (.str (Txt.replace x y z))) δ1
theorem pet_weak {t t' : TE} (h : PET X e t) (g : ∀ σ H Q, t' σ H Q → t σ H Q) : PET X e t' := fun pins s σ H Q h0 I q => h pins s σ H Q h0 I (g σ H Q q)
theorem pat_weak {t t' : TA} (h : PAT X es t) (g : ∀ σ H Q, t' σ H Q → t σ H Q) : PAT X es t' := fun pos pins s σ H Q h0 I q => h pos pins s σ H Q h0 I (g σ H Q q)
theorem dek_repl {y z : Str} (ho : DE X o wo) (hyz : (y == z) = false := by decide)
    (hst : starEach [.Constant (.str y) j c0, .Constant (.str z) k1 c1] X.env = [(false, eval (.Constant (.str y) j c0) X.env), (false, eval (.Constant (.str z) k1 c1) X.env)] := by rfl)
    (hbase : attributeBase o "replace" X.env (eval o X.env) = eval o X.env := by rfl) (hline : (apos.endLine == pos.line) = true := by rfl) :
    DEk X (.Call (.Attribute o "replace" apos) [.Constant (.str y) j c0, .Constant (.str z) k1 c1] [] pos) (wReplC wo y z) := by
  refine pet_weak (pet_replC ho hyz hst hbase hline) fun σ H Q ⟨O, δ, P, R0, w, f⟩ => ?_
  refine ⟨O, δ, _, R0, w, fun r δ1 v H1 w1 s1 R1 k1 => ?_⟩
  obtain ⟨z, rfl, hz, w1⟩ := w1
  have k1 : Dp X.K (hid H1 O) v (.str z) := k1
  cases k1
  exact ⟨z, rfl, hz, f _ _ _ _ w1 s1 R1 (.str _)⟩
theorem dak_nil : DAk X [] wNil := DA.kk da_nil
theorem dak_cons (h : DEk X e we) (hr : DAk X es ua) (hs : starEach (e :: es) X.env = (false, eval e X.env) :: starEach es X.env := by rfl) : DAk X (e :: es) (wCons we ua) := by
  refine pat_weak (pat_cons h hr hs) fun σ H Q ⟨O, δ, P, R0, w, f⟩ => ?_
  refine ⟨O, δ, _, R0, w, fun r1 δ1 v1 H1 w1 s1 R1 k1 => ?_⟩
  refine ⟨O, δ1, _, R1, w1, fun rs δ2 vs H2 w2 s2 R2 k2 => ?_⟩
  exact f _ _ _ _ w2 (s1.trans s2) R2 ⟨⟨δ1, H1, k1, s2.same⟩, RvsOk.back R0 R1 s1 k2⟩
theorem dek_lst (h : DAk X es ua) : DEk X (.List es pos) (wLst ua) := by
  refine pet_weak (pet_lst h) fun σ H Q ⟨O, δ, P, R0, w, f⟩ => ?_
  refine ⟨O, δ, _, R0, w, fun rs δ1 vs H1 w1 s1 R1 k1 => ?_⟩
  obtain ⟨⟨q1, q2⟩, w1⟩ := w1
  refine ⟨Nat.le_of_lt (small1000 (by rw [RvsOk.len k1]; exact q2)), fun p hp => ?_⟩
  exact (fin_of R0 s1 R1 f).2.1 _ _ p w1 (RvsOk.dp R0 R1 k1 q1) hp
theorem dek_op {op : Operator} {r : R2} {R : R2D} (ho : OpR X (binaryOp op) r) (hd : OpD X.K r R) (ha : DEk X a wa) (hb : DEk X b wb) : DEk X (.BinOp a op b pos) (w2 R wa wb) :=
  pet_weak (pet_op ho ha hb) fun _ _ _ => lift2 hd
theorem dek_catL (ha : DEk X a wa) (hb : DEk X b wb) : DEk X (.BinOp a .Add b pos) (w2 rCatLD wa wb) := dek_op op_catL opd_catL ha hb
theorem dsk_set (i : Nat) (hN : X.N.Nodup) (h : DEk X e we) (h0 : i ≠ 0 := by decide) (hi : X.N[i]? = some x := by rfl) (hx : Loc X.env.scope x := by first | exact Or.inl rfl | exact Or.inr rfl) (hs : swapsWith e (some (.Name x pos')) pos.line X.env = pure false := by rfl)
    (hf : X.fn x = true ∨ X.env.scope.names.lookup x = some .local := by first | exact .inl rfl | exact .inr rfl) : DSk X (.Assign [.Name x pos'] e pos) (wSet i we) := by
  intro pins s σ H D h1 I q
  refine wpAny_Assign_Name (thn (h pins s σ H _ h1 I (lift_set h0 q)) fun v s1 ⟨y, H1, I1, r1, q1⟩ => ?_) hs
  exact store_ok I1 hN hi hx r1 (fun s2 I2 => ⟨_, H1, I2, q1⟩) hf
theorem dssk_cons (h : DSk X st ws) (h2 : DSsk X rest ws') : DSsk X (st :: rest) (wThen ws ws') := by
  intro pins s σ H D h0 I ⟨O, δ, P, R, w, E⟩
  exact psst_cons h h2 pins s σ H D h0 I ⟨O, δ, _, R, w, ⟨fun O' δ' σ' H' p t R' => ⟨O', δ', P, R', p, E.after R R' t⟩, E.rt, E.bk, E.ct⟩⟩
theorem dss_k (h : DS1 X st ws) (h2 : DSsk X rest ws') : DSs X (st :: rest) (wThen ws ws') := by
  refine ⟨fun pins s σ H D I ⟨O, δ, P, R, w, E⟩ => ?_⟩
  have q : liftS X.K ws { D with nx := liftS X.K ws' D } σ H := ⟨O, δ, _, R, w, ⟨fun O' δ' σ' H' p t R' => ⟨O', δ', P, R', p, E.after R R' t⟩, E.rt, E.bk, E.ct⟩⟩
  refine wpAny_execs_cons (thn (h pins s σ H _ I q) fun f s1 ⟨h0, q⟩ => ?_)
  cases f with
  | next =>
    obtain ⟨σ', H', I', q⟩ := q
    exact h2 pins s1 σ' H' D h0 I' q
  | ret v => exact q
  | brk => exact q
  | cont => exact q
theorem de1_str {y : Str} : DE1 X (.Constant (.str y) j c0) (wC (.str y)) := by
  intro pins s σ H Q I ⟨O, δ, P, R0, w, f⟩
  refine Calls.Constant_str ⟨by show 1 ≤ s.toks + 1; omega, .str y, H, I.tok _, ⟨_, rfl⟩, f _ _ _ _ w Stp.refl R0 (.str _)⟩
theorem de1_ix {r : R2} {R : R2D} (ho : IxR X r) (hd : OpD X.K r R) (ha : DE1 X a wa) (hb : DE X b wb) (hs : PlainIx b) : DE1 X (.Subscript a b pos) (w2 R wa wb) := by
  intro pins s σ H Q I q
  refine Subscript_ (thn (ha pins s σ H _ I (lift2 hd q)) fun v s1 ⟨h0, x, H1, I1, r1, q1⟩ => ?_)
  exact thn (more h0 (hb.run pins s1 σ H1 _ I1 q1)) fun u s2 ⟨k0, y, H2, I2, r2, q2⟩ => more k0 (ho a b pins s2 σ H2 x y v u Q I2 r1 r2 q2 (hs _ _))
theorem ds1_par (i j : Nat) (hc : X.calm = true) (hN : X.N.Nodup) (ha : DE X a wa) (hb : DE1 X b wb) (h0 : i ≠ 0 := by decide) (h1 : j ≠ 0 := by decide) (hi : X.N[i]? = some x := by rfl) (hj : X.N[j]? = some y := by rfl) (hij : i ≠ j := by decide)
    (hx : X.env.scope.names.lookup x = some .local := by rfl) (hy : X.env.scope.names.lookup y = some .local := by rfl) (hs1 : starEach [a, b] X.env = (false, eval a X.env) :: starEach [b] X.env := by rfl) (hs2 : starEach [b] X.env = (false, eval b X.env) :: starEach [] X.env := by rfl)
    (hw : swappedStores [.Tuple [.Name x px, .Name y py] kt pt] (.Tuple [a, b] k2 pt2) X.env = pure (some [x, y]) := by rfl) (hs : swapsWithSole [.Tuple [.Name x px, .Name y py] kt pt] (.Tuple [a, b] k2 pt2) pos.line X.env = pure false := by rfl) :
    DS1 X (.Assign [.Tuple [.Name x px, .Name y py] kt pt] (.Tuple [a, b] k2 pt2) pos) (wPair i j wa wb) := by
  intro pins s σ H D I q
  have q2 := pair_ok (Q := fun v w H' => D.nx ((σ.set i (some v)).set j (some w)) H') h0 h1 q fun v w H' hnx _ => hnx
  rw [exec_Assign_arm]
  refine wpAny_bind (wpAny_standAt ?_)
  rw [hs]
  refine wpAny_bind (wpAny_pure ?_)
  rw [if_neg (by decide)]
  have go : wpAny (model X.prog X.w) X.A (spliced (backTo pt2 (starEach [a, b] X.env))) (fun us s1 => 1 ≤ s1.toks ∧ AP X pins σ (fun vs H1 => ∃ v w, vs = [v, w] ∧ D.nx ((σ.set i (some v)).set j (some w)) H1) us s1) X.xe s := by
    rw [hs1]
    show wpAny _ _ (spliced ((false, eval a X.env) :: backTo pt2 (starEach [b] X.env))) _ _ s
    refine Calls.spliced_cons (thn (ha.run pins s σ H _ I q2) fun u s1 ⟨v, H1, I1, r1, q1⟩ => ?_)
    rw [hs2]
    show wpAny _ _ (spliced ((false, eval b X.env) :: backTo pt2 (starEach [] X.env))) _ _ s1
    exact Calls.spliced_cons (thn (hb pins s1 σ H1 _ I1 q1) fun u2 s2 ⟨k0, w, H2, I2, r2, q2⟩ => Calls.spliced_nil ⟨k0, [v, w], H2, I2, .cons r1 (.cons r2 .nil), v, w, rfl, q2⟩)
  refine wpAny_bind (Tuple_ (thn go fun us s1 ⟨k0, vs, H1, I1, r1, q1⟩ => ?_))
  obtain ⟨v, w, e1, q1⟩ := q1
  subst e1
  obtain ⟨u1, u2, rfl, rv, rw'⟩ : ∃ u1 u2, us = [u1, u2] ∧ RelV v u1 ∧ RelV w u2 := by
    cases r1 with
    | cons p q =>
      cases q with
      | cons p' q' =>
        cases q'
        exact ⟨_, _, rfl, p, p'⟩
  refine wpAny_newObj_type ?_ (by show 2 ≤ sizeLine; decide)
  have I2 : Inv X pins σ H1 { s1 with heap := s1.heap.push { cls := .type "tuple", data := .seq [u1, u2].toArray } } := I1.kept (t' := s1.toks) fun b o e => Heap.get?_push_of_some _ e
  rw [hw]
  refine more (by exact k0) (wpAny_bind (wpAny_pure ?_))
  show wpAny (model X.prog X.w) X.A (do rule "assign.swapped-stores"; let items ← unpackItems (.ref s1.heap.objs.size) 2 none; assignInOrder [fun v => bindName X.env y v, fun v => bindName X.env x v] items.reverse; pure Flow.next) _ _ _
  refine wpAny_bind (wpAny_rule (wpAny_bind (unpackItems_tuple (items := #[u1, u2]) (I.ok.hd hc) (IsTup.new s1.heap _) fun h' hx' => ?_)))
  have I3 := I2.kept (h' := h') (t' := s1.toks) fun b o e => hx' b o (Nat.ne_of_lt (Heap.lt_size e)) e
  show wpAny _ _ (assignInOrder [fun v => bindName X.env y v, fun v => bindName X.env x v] [u2, u1] >>= fun _ => pure Flow.next) _ _ _
  refine wpAny_bind (assignInOrder_cons (wpAny_bindName (store_ok I3 hN hj (.inl hy) rw' (fun s2 I4 => ?_) (.inr hy))))
  refine assignInOrder_cons (wpAny_bindName (store_ok I4 hN hi (.inl hx) rv (fun s3 I5 => assignInOrder_nil (wpAny_pure ?_)) (.inr hx)))
  rw [List.set_comm _ _ (Ne.symm hij)] at I5
  exact ⟨_, H1, I5, q1⟩
end
end Dw
namespace Dw
open PySem PySem.Spec PyProof.Rows L2 CwR
section
variable {X : Cx} {a b c e : Expr} {es : List Expr} {wa wb wc we : WE} {pos : Pos} {W : WX} {ux : WAX}
theorem de_globS {x : Str} {z : Str} {t : Tok} (hg : Gl X x) (hm : X.mg x = some (.str z t)) (hd : (x == ("__debug__" : Str)) = false := by decide) : DE X (.Name x pos) (wC (.str z)) :=
  pe_weak (pe_glob hg hm (v := .str z) ⟨t, rfl⟩ hd) fun σ H Q ⟨O, δ, P, R, w, f⟩ => f _ _ _ _ w Stp.refl R (.str z)
def rIxSD : R2D := fun d e P => match d, e with
  | .str z, .int i => match atI z.cps.toList i with
    | some c => z.length ≤ sizeLine ∧ P (.d (.str ⟨#[c]⟩))
    | none => False
  | _, _ => False
theorem opd_ixS {K : PySem.W.Frag} : OpD K rIxS rIxSD := by
  intro G H x y d e P Q hx hy s r f
  unfold rIxSD at r
  split at r
  · rename_i z i
    split at r
    · rename_i c ec
      exact ⟨z, i, c, hx.str, hy.int, r.1, ec, f.1 _ _ r.2 (.str _)⟩
    · exact r.elim
  · exact r.elim
theorem de_ixS (ha : DE X a wa) (hb : DE X b wb) (hs : PlainIx b := by exact fun _ _ => rfl) : DE X (.Subscript a b pos) (w2 rIxSD wa wb) := pe_weak (pe_ix ix_str ha hb hs) fun _ _ _ => lift2 opd_ixS
theorem de1_ixS (ha : DE1 X a wa) (hb : DE X b wb) (hs : PlainIx b := by exact fun _ _ => rfl) : DE1 X (.Subscript a b pos) (w2 rIxSD wa wb) := de1_ix ix_str opd_ixS ha hb hs
def rMulSD : R2D := fun d e P => match d, e with
  | .str z, .int k => z.length ≤ 1000 ∧ 0 ≤ k ∧ k ≤ 1000 ∧ ∀ t : Str, t.length = z.length * k.toNat → P (.d (.str t))
  | _, _ => False
theorem opd_mulS {K : PySem.W.Frag} : OpD K (fun x y H Q => ∃ (z : Str) (k : Int), x = .str z ∧ y = .int k ∧ z.length ≤ 1000 ∧ 0 ≤ k ∧ k ≤ 1000 ∧ ∀ t : Str, t.length = z.length * k.toNat → Q (.str t) H) rMulSD := by
  intro G H x y d e P Q hx hy s r f
  unfold rMulSD at r
  split at r
  · obtain ⟨h1, h2, h3, r⟩ := r
    exact ⟨_, _, hx.str, hy.int, h1, h2, h3, fun t ht => f.1 _ _ (r t ht) (.str _)⟩
  · exact r.elim
theorem de_mulS (ha : DE X a wa) (hb : DE X b wb) : DE X (.BinOp a .Mult b pos) (w2 rMulSD wa wb) := de_op op_mulS opd_mulS ha hb
theorem dt_ltlt (ha : DE X a wa) (hb : DE X b wb) (hc : DE X c wc) (hm : lastMarks [.Lt, .Lt] [b, c] = false := by with_unfolding_all rfl) : DT X (.Compare a [.Lt, .Lt] [b, c] pos) (wB (wChain (rI1 fun i j => .bool (decide (i < j))) (rI1 fun i j => .bool (decide (i < j))) wa wb wc)) :=
  pt_weak (pt_chain op_lt op_lt ha hb hc hm) fun _ _ _ q => lift_chain (opd_I0 fun _ _ _ => .bl _) (opd_I0 fun _ _ _ => .bl _) (liftB q)
def wTupE (u : WAX) : WEX := fun δ P PX => u δ (fun rs δ1 => (rs.all noB = true ∧ rs.length ≤ 1000) ∧ P (.d (.tuple (rs.map Rv.as))) δ1) PX
end
end Dw
namespace B
open PySem PySem.Spec PyProof.Rows L2 Dw TL
def isDig (c : Nat) : Bool := decide (48 ≤ c) && decide (c ≤ 57)
def digOk (w : List Nat) : Bool := (decide (1 ≤ w.length) && decide (w.length ≤ 4)) && w.all isDig
def zed (w : List Nat) : Bool := decide (1 < w.length) && decide (w.head? = some 48)
def readN (w : List Nat) : Int := if digOk w = true then (if zed w = true then -1 else ((NumText.digitsVal w : Nat) : Int)) else -1
theorem in_digits {c : Nat} : decide (c ∈ ("0123456789" : Str).cps.toList) = isDig c := by
  have : ("0123456789" : Str).cps.toList = [48, 49, 50, 51, 52, 53, 54, 55, 56, 57] := by decide +kernel
  rw [this]
  unfold isDig
  rw [Bool.eq_iff_iff]
  simp only [List.mem_cons, List.not_mem_nil, or_false, decide_eq_true_eq, Bool.and_eq_true]
  omega
theorem num4 : ∀ a < 10, ∀ b < 10, ∀ c < 10, ∀ d < 10, (numL (NumText.digitsVal [48 + a, 48 + b, 48 + c, 48 + d]) == [48 + a, 48 + b, 48 + c, 48 + d]) = !(a == 0) := by decide +kernel
theorem num3 : ∀ a < 10, ∀ b < 10, ∀ c < 10, (numL (NumText.digitsVal [48 + a, 48 + b, 48 + c]) == [48 + a, 48 + b, 48 + c]) = !(a == 0) := by decide +kernel
theorem num2 : ∀ a < 10, ∀ b < 10, (numL (NumText.digitsVal [48 + a, 48 + b]) == [48 + a, 48 + b]) = !(a == 0) := by decide +kernel
theorem num1 : ∀ a < 10, (numL (NumText.digitsVal [48 + a]) == [48 + a]) = true := by decide +kernel
theorem dig_sub {c : Nat} (h : isDig c = true) : ∃ a, a < 10 ∧ c = 48 + a := by
  unfold isDig at h
  rw [Bool.and_eq_true, decide_eq_true_eq, decide_eq_true_eq] at h
  exact ⟨c - 48, by omega, by omega⟩
theorem num_back {w : List Nat} (h : digOk w = true) : (numL (NumText.digitsVal w) == w) = !zed w := by
  unfold digOk at h
  rw [Bool.and_eq_true, Bool.and_eq_true, decide_eq_true_eq, decide_eq_true_eq, List.all_eq_true] at h
  obtain ⟨⟨h1, h2⟩, h3⟩ := h
  match w, h1, h2, h3 with
  | [a], _, _, h3 =>
    obtain ⟨a', q, rfl⟩ := dig_sub (h3 a (by simp))
    rw [num1 a' q]; rfl
  | [a, b], _, _, h3 =>
    obtain ⟨a', q, rfl⟩ := dig_sub (h3 a (by simp))
    obtain ⟨b', q2, rfl⟩ := dig_sub (h3 b (by simp))
    rw [num2 a' q b' q2]; unfold zed
    cases a' with
    | zero => rfl
    | succ n => simp
  | [a, b, c], _, _, h3 =>
    obtain ⟨a', q, rfl⟩ := dig_sub (h3 a (by simp))
    obtain ⟨b', q2, rfl⟩ := dig_sub (h3 b (by simp))
    obtain ⟨c', q3, rfl⟩ := dig_sub (h3 c (by simp))
    rw [num3 a' q b' q2 c' q3]; unfold zed
    cases a' with
    | zero => rfl
    | succ n => simp
  | [a, b, c, d], _, _, h3 =>
    obtain ⟨a', q, rfl⟩ := dig_sub (h3 a (by simp))
    obtain ⟨b', q2, rfl⟩ := dig_sub (h3 b (by simp))
    obtain ⟨c', q3, rfl⟩ := dig_sub (h3 c (by simp))
    obtain ⟨d', q4, rfl⟩ := dig_sub (h3 d (by simp))
    rw [num4 a' q b' q2 c' q3 d' q4]; unfold zed
    cases a' with
    | zero => rfl
    | succ n => simp
theorem val_le {w : List Nat} (h : digOk w = true) : NumText.digitsVal w ≤ 9999 := by
  unfold digOk at h
  rw [Bool.and_eq_true, Bool.and_eq_true, decide_eq_true_eq, decide_eq_true_eq, List.all_eq_true] at h
  obtain ⟨⟨h1, h2⟩, h3⟩ := h
  have D : ∀ c ∈ w, c - 48 ≤ 9 := fun c hc => by obtain ⟨a, q, rfl⟩ := dig_sub (h3 c hc); omega
  match w, h1, h2, D with
  | [a], _, _, D => have := D a (by simp); simp only [NumText.digitsVal, List.foldl_cons, List.foldl_nil]; omega
  | [a, b], _, _, D => have := D a (by simp); have := D b (by simp); simp only [NumText.digitsVal, List.foldl_cons, List.foldl_nil]; omega
  | [a, b, c], _, _, D => have := D a (by simp); have := D b (by simp); have := D c (by simp); simp only [NumText.digitsVal, List.foldl_cons, List.foldl_nil]; omega
  | [a, b, c, d], _, _, D => have := D a (by simp); have := D b (by simp); have := D c (by simp); have := D d (by simp); simp only [NumText.digitsVal, List.foldl_cons, List.foldl_nil]; omega
theorem int_w {w : List Nat} (h : digOk w = true) : intText? (SX.S w) = some ((NumText.digitsVal w : Nat) : Int) := by
  unfold digOk at h
  rw [Bool.and_eq_true, Bool.and_eq_true, decide_eq_true_eq, decide_eq_true_eq] at h
  exact SX.int_S h.2 (fun e => by subst e; exact absurd h.1.1 (by decide)) (by omega)
theorem readN_num {w : List Nat} {n : Nat} (h : readN w = (n : Int)) : w = numL n := by
  unfold readN at h
  split at h
  · rename_i hd
    split at h
    · omega
    · rename_i hz
      have := num_back hd
      rw [Bool.not_eq_true] at hz
      rw [hz] at this
      have e : NumText.digitsVal w = n := by omega
      rw [e] at this
      exact (eq_of_beq this).symm
  · omega
theorem numRead {n : Nat} (h : n ≤ 9999) : readN (numL n) = (n : Int) := by
  have hd : digOk (numL n) = true := by
    unfold digOk
    rw [Bool.and_eq_true, Bool.and_eq_true, decide_eq_true_eq, decide_eq_true_eq, List.all_eq_true]
    refine ⟨⟨?_, numL_len (by decide) (by omega)⟩, fun c hc => ?_⟩
    · have := numL_ne n
      exact List.length_pos_iff.mpr this
    · have := numL_digits n c hc
      unfold isDig
      rw [Bool.and_eq_true, decide_eq_true_eq, decide_eq_true_eq]
      exact this
  unfold readN
  rw [if_pos hd, if_neg ?_, numL_val]
  have := num_back hd
  rw [numL_val] at this
  intro hz
  rw [hz] at this
  simp at this
end B
namespace B
open PySem PySem.Spec PyProof.Rows L2 Dw
local macro_rules | `(tactic| walk_at "ds") => `(tactic| try dsimp only [wRevT, wCallX0, wCall0, wE0, wNevS, wLmul, wCntL, wCntL1, wIsE, wStrE, wForget, wBrw, wCallL, endL, wRet, wRetN, sPu, wThenX, wIfX, wRetX, wDropX, wSetX, wCallX, wCallP, uPu, wPu, uConsX, wRaise, wDc, wDcT, wDZ, wD1, wGet1, wGet2, wGetT, wThen, wIfS, wIf, wNotT, Dw.wTru, wB, w2, wV, wC, wCons, wNil, wCall, wCallO, wCallO1, endO, wCB, wLc, wSeq, wYes, wNext, wNever, wDrop, wSet, wAsg, wPair, wFor, wTup, wLst, wAndV, wOrV, wNotV, wNeg, wAndT, wOrT, wIsi, wChain, wSlice, wPart, wNo, wZip, wEnum, wRng1, wRng2, wLc2, wApp, wApp1, wPop, wPop1, wExt, wExt1, wSetI, wSetI1, wSetD, wDat, wTupRg, wLstRg, wTupS, wCBX, wCallE, wCallPE, rngL, wIdx, wIdx1, wExtL, wExtL1, wLenM, wNotInM, wGetM, wPutM, wPutM1, wSetK, wTri, wForget, rCatTD, rCatLD, intsR, Option.map_some, bN, bTup, bCons, bNil, as_d, as_l, as_b, noB_d, noB_l, still_d, still_l, still_b, put_d, put_l, tru_bool, tru_tup, tru_lst, isT_tup, isI_int, isB_int, stillA_nil, stillA_cons, map0, map1, map2, map3, len_l, len_t, tup_l, tup_t, lst_l, lst_t, max_i, min_i, List.all_cons, List.all_nil, Bool.and_self, Bool.and_true, Bool.not_true, Bool.not_false, List.getElem?_cons_zero, List.getElem?_cons_succ, List.cons_append, List.nil_append, List.append_nil, List.reduceReplicate, Nat.reduceSub, Nat.sub_self, rI1, rI2, rAddD, rSubD, rMulD, rDivD, rModD, rPowD, rLtD, rLeD, rGtD, rGeD, List.set_cons_zero, List.set_cons_succ, List.set_nil, endsOf, outD, wipeD])
theorem num_of {lo hi i : Int} (h1 : lo ≤ i) (h2 : i ≤ hi) : numB lo hi (.int i) = true := by
  show (decide (lo ≤ i) && decide (i ≤ hi)) = true
  rw [decide_eq_true h1, decide_eq_true h2]; rfl
theorem ascB_of {ns : List Int} (h : ns.Pairwise (· < ·)) : ascB (ns.map PyData.int) = true := by
  unfold ascB
  rw [← List.map_drop, List.zip_map, List.all_map]
  refine List.all_eq_true.mpr fun p hp => ?_
  obtain ⟨i, hi, e⟩ := List.getElem_of_mem hp
  have hi2 := hi
  rw [List.length_zip, List.length_drop] at hi2
  rw [List.getElem_zip, List.getElem_drop] at e
  subst e
  exact decide_eq_true (List.pairwise_iff_getElem.mp h i (1 + i) (by omega) (by omega) (by omega))
theorem cols_okB {m : Int} {g : List Int} (h : ColsOk m g) : numsB 0 (m - 1) (iT g) = true := by
  show ((g.map PyData.int).all (numB 0 (m - 1)) && ascB (g.map PyData.int)) = true
  rw [ascB_of h.asc, Bool.and_true]
  refine List.all_eq_true.mpr fun x hx => ?_
  obtain ⟨c, hc, rfl⟩ := List.mem_map.mp hx
  have := h.inn c hc
  exact num_of this.1 (by omega)
theorem odd_tup {xs : List PyData} (hl : xs.length ≤ 1000) (h : ∀ x ∈ xs, odd x = true) : odd (.tuple xs) = true := by
  unfold odd
  rw [decide_eq_true hl, Bool.true_and]
  exact oddAll_iff.mpr h
theorem odd_iT {g : List Int} (h : g.length ≤ 1000) : odd (iT g) = true := odd_tup (by rw [List.length_map]; exact h) fun x hx => by
  obtain ⟨c, _, rfl⟩ := List.mem_map.mp hx
  rfl
theorem odd_rules {m : Int} {rl : List Rule} (h : RulesOk m rl) : odd (rulesD rl) = true := odd_tup (by rw [List.length_map]; have := h.few; omega) fun x hx => by
  obtain ⟨r, hr, rfl⟩ := List.mem_map.mp hx
  have := (h.all r hr).cols.few
  refine odd_tup (by simp) fun y hy => ?_
  rcases List.mem_cons.mp hy with rfl | hy
  · exact odd_iT (by omega)
  · rw [List.mem_singleton.mp hy]; rfl
theorem rule_okB {m : Int} {r : Rule} (h : RuleOk m r) : ruleB m (ruleD r) = true := by
  show (numsB 0 (m - 1) (iT r.1) && (numB 0 (m - 1) (.int r.2) && !innB (.int r.2) (iT r.1))) = true
  have h2 := h.hi
  rw [cols_okB h.cols, num_of h.lo (by omega), show iT r.1 = .tuple (r.1.map PyData.int) from rfl, innB_ints, decide_eq_false h.out]
  rfl
theorem rules_okB {m : Int} {rl : List Rule} (h : RulesOk m rl) : rulesB m (rulesD rl) = true := by
  show (decide ((rl.map ruleD).length ≤ 8) && (rl.map ruleD).all (ruleB m)) = true
  rw [List.length_map, decide_eq_true h.few, Bool.true_and]
  refine List.all_eq_true.mpr fun x hx => ?_
  obtain ⟨r, hr, rfl⟩ := List.mem_map.mp hx
  exact rule_okB (h.all r hr)
end B
namespace B
open PySem PySem.Spec PyProof.Rows L2 Dw TL
def wordsOf (l : List Nat) : List (List Nat) := spl [32] 0 [] l
def linesOf (a : List Nat) : List (List Nat) := spl [10] 0 [] (a.take (a.length - 1))
def colW : List Nat := ("columns" : Str).cps.toList
def headW : List (List Nat) → Option Int
  | [x, y] => if x = colW ∧ 1 ≤ readN y ∧ readN y ≤ 5 then some (readN y) else none
  | _ => none
def headA (a : List Nat) : Option (Int × List (List Nat)) :=
  if a.drop (a.length - 1) = [10] then
    match linesOf a with
    | [] => none
    | l :: ls => (headW (wordsOf l)).map fun m => (m, ls)
  else none
theorem headA_cons {a l : List Nat} {ls : List (List Nat)} (hd : a.drop (a.length - 1) = [10]) (el : linesOf a = l :: ls) : headA a = (headW (wordsOf l)).map fun m => (m, ls) := by
  unfold headA
  rw [if_pos hd, el]
theorem headA_no {a : List Nat} (hd : a.drop (a.length - 1) ≠ [10]) : headA a = none := by
  unfold headA
  rw [if_neg hd]
theorem pre1 {s c : Nat} {r : List Nat} : pre [s] (c :: r) = decide (c = s) := by
  unfold pre
  show ([c] == [s]) = _
  by_cases h : c = s <;> simp [h]
theorem spl_step {s c : Nat} {acc r : List Nat} : spl [s] 0 acc (c :: r) = if c = s then acc :: spl [s] 0 [] r else spl [s] 0 (acc ++ [c]) r := by
  by_cases h : c = s
  · rw [if_pos h, spl_hit (by rw [pre1]; exact decide_eq_true h)]; rfl
  · rw [if_neg h, spl_miss (by rw [pre1]; exact decide_eq_false h)]
theorem spl_len {s : Nat} : ∀ (l acc : List Nat), (spl [s] 0 acc l).length ≤ l.length + 1
  | [], acc => by rw [spl_nil]; simp
  | c :: r, acc => by
    rw [spl_step]
    split
    · have := spl_len (s := s) r []
      simp only [List.length_cons]; omega
    · have := spl_len (s := s) r (acc ++ [c])
      simp only [List.length_cons]; omega
theorem spl_ne {s : Nat} : ∀ (l acc : List Nat), spl [s] 0 acc l ≠ []
  | [], acc => by rw [spl_nil]; simp
  | c :: r, acc => by
    rw [spl_step]
    split
    · simp
    · exact spl_ne r _
theorem spl_piece {s : Nat} : ∀ (l acc : List Nat), ∀ p ∈ spl [s] 0 acc l, p.length ≤ acc.length + l.length
  | [], acc, p, h => by
    rw [spl_nil] at h
    rw [List.mem_singleton.mp h]; simp
  | c :: r, acc, p, h => by
    rw [spl_step] at h
    split at h
    · rcases List.mem_cons.mp h with rfl | h
      · omega
      · have := spl_piece (s := s) r [] p h
        simp only [List.length_cons, List.length_nil] at this ⊢; omega
    · have := spl_piece (s := s) r (acc ++ [c]) p h
      simp only [List.length_append, List.length_cons, List.length_nil] at this ⊢; omega
theorem lines_len {a : List Nat} : (linesOf a).length ≤ a.length + 1 := by
  have h := spl_len (s := 10) (a.take (a.length - 1)) []
  have h2 := List.length_take_le (a.length - 1) a
  have h3 : (a.take (a.length - 1)).length ≤ a.length := by rw [List.length_take]; omega
  exact Nat.le_trans h (by omega)
theorem lines_ne {a : List Nat} : linesOf a ≠ [] := spl_ne _ _
theorem line_len {a l : List Nat} (h : l ∈ linesOf a) : l.length ≤ a.length := by
  have := spl_piece _ _ l h
  have h3 : (a.take (a.length - 1)).length ≤ a.length := by rw [List.length_take]; omega
  simp only [List.length_nil] at this; omega
theorem words_len {l : List Nat} : (wordsOf l).length ≤ l.length + 1 := spl_len _ _
theorem words_ne {l : List Nat} : wordsOf l ≠ [] := spl_ne _ _
theorem word_len {l w : List Nat} (h : w ∈ wordsOf l) : w.length ≤ l.length := by
  have := spl_piece _ _ w h
  simp only [List.length_nil] at this; omega
theorem headW_rng {ws : List (List Nat)} {m : Int} (h : headW ws = some m) : 1 ≤ m ∧ m ≤ 5 := by
  unfold headW at h
  split at h
  · split at h
    · rename_i q; cases h; exact q.2
    · cases h
  · cases h
theorem five {y : List Nat} : (1 ≤ readN y ∧ readN y ≤ 5) ↔ (y = [49] ∨ y = [50] ∨ y = [51] ∨ y = [52] ∨ y = [53]) := by
  constructor
  · rintro ⟨h1, h2⟩
    have e : readN y = ((readN y).toNat : Int) := by omega
    have := readN_num e
    have q : (readN y).toNat = 1 ∨ (readN y).toNat = 2 ∨ (readN y).toNat = 3 ∨ (readN y).toNat = 4 ∨ (readN y).toNat = 5 := by omega
    rcases q with q | q | q | q | q <;> rw [q] at this <;> rw [this, numL_lt (by decide)] <;> simp
  · rintro (rfl | rfl | rfl | rfl | rfl) <;> decide +kernel
def headL (m : Int) : List Nat := colW ++ (32 :: numL m.toNat)
theorem join_ends (s : Nat) : ∀ (x : List Nat) (ys : List (List Nat)), ((x :: ys).map (· ++ [s])).flatten = joinL [s] (x :: ys) ++ [s]
  | x, [] => by simp [joinL]
  | x, y :: ys => by
    rw [List.map_cons, List.flatten_cons, join_ends s y ys]
    show x ++ [s] ++ (joinL [s] (y :: ys) ++ [s]) = (x ++ ([s] ++ joinL [s] (y :: ys))) ++ [s]
    simp
theorem joinL_nil : ∀ ys : List (List Nat), joinL [] ys = ys.flatten
  | [] => rfl
  | [x] => by simp [joinL]
  | x :: y :: ys => by
    show x ++ ([] ++ joinL [] (y :: ys)) = _
    rw [joinL_nil (y :: ys)]; simp
theorem joinL_mem {s : Nat} {S : List Nat} : ∀ {ps : List (List Nat)}, s ∈ joinL S ps → s ∈ S ∨ ∃ p ∈ ps, s ∈ p
  | [], h => by simp [joinL] at h
  | [p], h => .inr ⟨p, by simp, h⟩
  | p :: q :: r, h => by
    rcases List.mem_append.mp (show s ∈ p ++ (S ++ joinL S (q :: r)) from h) with h | h
    · exact .inr ⟨p, by simp, h⟩
    · rcases List.mem_append.mp h with h | h
      · exact .inl h
      · rcases joinL_mem h with h | ⟨z, hz, h⟩
        · exact .inl h
        · exact .inr ⟨z, List.mem_cons_of_mem _ hz, h⟩
theorem headL_free (m : Int) : 10 ∉ headL m := fun h => by
  rcases List.mem_append.mp h with h | h
  · exact absurd h (by decide +kernel)
  · rcases List.mem_cons.mp h with h | h
    · cases h
    · exact numL_free (.inl (by decide)) h
theorem words_head (m : Int) : wordsOf (headL m) = [colW, numL m.toNat] := by
  have : headL m = joinL [32] [colW, numL m.toNat] := rfl
  rw [this]
  refine spl_join (by simp) fun p hp => ?_
  simp only [List.mem_cons, List.not_mem_nil, or_false] at hp
  rcases hp with rfl | rfl
  · decide +kernel
  · exact numL_free (.inl (by decide))
end B
namespace B
open PySem PySem.Spec PyProof.Rows L2 Dw
mutual
def nice : PyData → Bool
  | .none => true
  | .bool _ => true
  | .int i => decide (-1 ≤ i) && decide (i ≤ 1000000000000)
  | .str x => decide (x = "") || decide (x = "-") || decide (x = "0") || decide (x = "filling") || decide (x = "conflict")
  | .list xs => niceAll xs
  | .tuple xs => niceAll xs
  | .dict [(.none, .int 0)] => true
  | .dict _ => false
def niceAll : List PyData → Bool
  | [] => true
  | x :: xs => nice x && niceAll xs
end
mutual
def dpo : PyData → Nat
  | .list xs => dpoAll xs + 1
  | .tuple xs => dpoAll xs + 1
  | .dict _ => 1
  | _ => 0
def dpoAll : List PyData → Nat
  | [] => 0
  | x :: xs => max (dpo x) (dpoAll xs)
end
theorem niceAll_iff : ∀ {xs : List PyData}, niceAll xs = true ↔ ∀ x ∈ xs, nice x = true
  | [] => by simp [niceAll]
  | x :: xs => by rw [niceAll, Bool.and_eq_true, niceAll_iff]; simp
theorem nice_dict {kvs : List (PyData × PyData)} (h : nice (.dict kvs) = true) : kvs = [(.none, .int 0)] := by
  unfold nice at h
  split at h
  all_goals first
    | (rename_i e; cases e; done)
    | (rename_i e; cases e; rfl)
    | cases h
theorem countAll_app : ∀ (xs ys : List PyData), countAll (xs ++ ys) = countAll xs + countAll ys
  | [], ys => by simp [countAll]
  | x :: xs, ys => by simp only [List.cons_append, countAll, countAll_app xs ys]; omega
theorem countAll_cut (xs : List PyData) (i : Nat) : countAll (xs.take i) + countAll (xs.drop i) = countAll xs := by
  rw [← countAll_app, List.take_append_drop]
theorem count_mem {x : PyData} : ∀ {xs : List PyData}, x ∈ xs → count x + 1 ≤ countAll xs
  | y :: xs, h => by
    rcases List.mem_cons.mp h with rfl | h
    · simp only [countAll]; omega
    · have := count_mem h; simp only [countAll]; omega
theorem len_count : ∀ (xs : List PyData), xs.length ≤ countAll xs
  | [] => by simp [countAll]
  | x :: xs => by have := len_count xs; simp only [countAll, List.length_cons]; omega
theorem dpoAll_le {k : Nat} : ∀ {xs : List PyData}, dpoAll xs ≤ k ↔ ∀ x ∈ xs, dpo x ≤ k
  | [] => by simp [dpoAll]
  | x :: xs => by rw [dpoAll, Nat.max_le, dpoAll_le]; simp
def NcL (c k : Nat) (xs : List PyData) : Prop := (∀ x ∈ xs, nice x = true ∧ dpo x ≤ k) ∧ countAll xs ≤ c
def Nc (c k : Nat) (d : PyData) : Prop := nice d = true ∧ count d ≤ c ∧ dpo d ≤ k
section
variable {c c1 c2 k k1 : Nat} {xs ys : List PyData} {d : PyData}
theorem Nc.mono (h : Nc c k d) (hc : c ≤ c1) (hk : k ≤ k1) : Nc c1 k1 d := ⟨h.1, Nat.le_trans h.2.1 hc, Nat.le_trans h.2.2 hk⟩
theorem NcL.mono (h : NcL c k xs) (hc : c ≤ c1) (hk : k ≤ k1) : NcL c1 k1 xs := ⟨fun x hx => ⟨(h.1 x hx).1, Nat.le_trans (h.1 x hx).2 hk⟩, Nat.le_trans h.2 hc⟩
theorem NcL.tup (h : NcL c k xs) : Nc c (k + 1) (.tuple xs) := ⟨by rw [nice, niceAll_iff]; exact fun x hx => (h.1 x hx).1, by rw [count]; exact h.2, by rw [dpo]; have := dpoAll_le.mpr fun x hx => (h.1 x hx).2; omega⟩
theorem NcL.lst (h : NcL c k xs) : Nc c (k + 1) (.list xs) := ⟨by rw [nice, niceAll_iff]; exact fun x hx => (h.1 x hx).1, by rw [count]; exact h.2, by rw [dpo]; have := dpoAll_le.mpr fun x hx => (h.1 x hx).2; omega⟩
theorem NcL.at_ (h : NcL c k xs) (m : d ∈ xs) : Nc c k d ∧ count d + 1 ≤ c := ⟨⟨(h.1 d m).1, by have := count_mem m; have := h.2; omega, (h.1 d m).2⟩, Nat.le_trans (count_mem m) h.2⟩
theorem NcL.one (h : Nc c k d) : NcL (c + 1) k [d] := ⟨fun x hx => by rw [List.mem_singleton.mp hx]; exact ⟨h.1, h.2.2⟩, by simp only [countAll]; have := h.2.1; omega⟩
theorem NcL.put {i : Nat} {x y : PyData} (h : NcL c k xs) (e : xs[i]? = some x) (g : Nc c2 k1 y) (hk : k ≤ k1) : NcL (c + c2 - count x) k1 (xs.take i ++ [y] ++ xs.drop (i + 1)) := by
  have hx : countAll (xs.take i) + (count x + 1) + countAll (xs.drop (i + 1)) = countAll xs := by
    obtain ⟨hi, ex⟩ := List.getElem?_eq_some_iff.mp e
    rw [← countAll_cut xs i, List.drop_eq_getElem_cons hi, ex]
    simp only [countAll]; omega
  refine ⟨fun z hz => ?_, ?_⟩
  · rcases List.mem_append.mp hz with hz | hz
    · rcases List.mem_append.mp hz with hz | hz
      · exact ⟨(h.1 z (List.mem_of_mem_take hz)).1, Nat.le_trans (h.1 z (List.mem_of_mem_take hz)).2 hk⟩
      · rw [List.mem_singleton.mp hz]; exact ⟨g.1, g.2.2⟩
    · exact ⟨(h.1 z (List.mem_of_mem_drop hz)).1, Nat.le_trans (h.1 z (List.mem_of_mem_drop hz)).2 hk⟩
  · rw [countAll_app, countAll_app]
    have := h.2; have := g.2.1
    simp only [countAll]
    omega
end
mutual
theorem odd_nice : ∀ d : PyData, nice d = true → count d ≤ 1000 → odd d = true
  | .none, _, _ => rfl
  | .bool _, _, _ => rfl
  | .int _, _, _ => rfl
  | .str _, _, _ => rfl
  | .list xs, h, c => by
    rw [nice] at h; rw [count] at c
    rw [odd]; exact odd_niceL xs h c
  | .tuple xs, h, c => by
    rw [nice] at h; rw [count] at c
    rw [odd, odd_niceL xs h c, Bool.and_true]
    exact decide_eq_true (Nat.le_trans (len_count xs) c)
  | .dict kvs, h, _ => by rw [nice_dict h]; rfl
theorem odd_niceL : ∀ xs : List PyData, niceAll xs = true → countAll xs ≤ 1000 → oddAll xs = true
  | [], _, _ => rfl
  | x :: xs, h, c => by
    rw [niceAll, Bool.and_eq_true] at h
    simp only [countAll] at c
    rw [oddAll, odd_nice x h.1 (by omega), odd_niceL xs h.2 (by omega)]; rfl
end
theorem int_show {i : Int} (h0 : -1 ≤ i) (h1 : i ≤ 1000000000000) : (PyData.int i).showable = true ∧ (PyData.shown (.int i)).length ≤ 15 := by
  refine ⟨?_, ?_⟩
  · simp only [PyData.showable, decide_eq_true_eq]
    have h17 : i.natAbs < 2 ^ 41 := by omega
    by_cases hz : i.natAbs = 0
    · rw [hz]; decide
    · exact Nat.lt_of_lt_of_le ((Nat.log2_lt hz).mpr h17) (by decide)
  · by_cases z : i = -1
    · subst z; decide +kernel
    · have := toString_length_le (v := i) (by omega) (k := 15) (by decide) (by omega)
      unfold PyData.shown
      omega
mutual
theorem show_nice : ∀ d : PyData, nice d = true → hasOb d = false ∧ (bare d).showable = true ∧ (bare d).depth ≤ dpo d ∧ (bare d).shown.length ≤ 20 * count d + 15
  | .none, _ => ⟨by simp [hasOb], by simp [bare, PyData.showable], by simp [bare, PyData.depth], by simp only [bare]; decide⟩
  | .bool b, _ => ⟨by simp [hasOb], by simp [bare, PyData.showable], by simp [bare, PyData.depth], by simp only [bare]; cases b <;> decide⟩
  | .int i, h => by
    rw [nice, Bool.and_eq_true, decide_eq_true_eq, decide_eq_true_eq] at h
    obtain ⟨h1, h2⟩ := int_show h.1 h.2
    refine ⟨by simp [hasOb], by simpa [bare] using h1, by simp [bare, PyData.depth], ?_⟩
    simp only [bare]
    exact Nat.le_trans h2 (by omega)
  | .str x, h => by
    rw [nice, Bool.or_eq_true, Bool.or_eq_true, Bool.or_eq_true, Bool.or_eq_true, decide_eq_true_eq, decide_eq_true_eq, decide_eq_true_eq, decide_eq_true_eq, decide_eq_true_eq] at h
    refine ⟨by simp [hasOb], by simp [bare, PyData.showable], by simp [bare, PyData.depth], ?_⟩
    rcases h with (((h | h) | h) | h) | h <;> (subst h; decide +kernel)
  | .list xs, h => by
    rw [nice] at h
    obtain ⟨h1, h2, h3, h4⟩ := show_niceL xs h
    have h5 := listText_len_le (PyData.shownAll (bares xs))
    have h6 := PyData.shownAll_length (bares xs)
    refine ⟨by rw [hasOb]; exact h1, by simpa only [bare, PyData.showable] using h2, by simp only [bare, PyData.depth, dpo]; omega, ?_⟩
    simp only [bare, PyData.shown, count]
    omega
  | .tuple xs, h => by
    rw [nice] at h
    obtain ⟨h1, h2, h3, h4⟩ := show_niceL xs h
    have h5 := tupleText_len_le (PyData.shownAll (bares xs))
    have h6 := PyData.shownAll_length (bares xs)
    refine ⟨by rw [hasOb]; exact h1, by simpa only [bare, PyData.showable] using h2, by simp only [bare, PyData.depth, dpo]; omega, ?_⟩
    simp only [bare, PyData.shown, count]
    omega
  | .dict kvs, h => by
    rw [nice_dict h]
    refine ⟨by decide, by simp [bare, PyData.showable, PyData.showableKv], by simp [bare, PyData.depth, PyData.depthKv, dpo], ?_⟩
    simp only [bare]; decide
theorem show_niceL : ∀ xs : List PyData, niceAll xs = true → hasObs xs = false ∧ PyData.showableAll (bares xs) = true ∧ PyData.depthAll (bares xs) ≤ dpoAll xs ∧ ((PyData.shownAll (bares xs)).map (·.length)).sum + 2 * (bares xs).length ≤ 20 * countAll xs
  | [], _ => ⟨rfl, rfl, by simp [bares, PyData.depthAll], by simp [bares, PyData.shownAll]⟩
  | x :: xs, h => by
    rw [niceAll, Bool.and_eq_true] at h
    obtain ⟨a1, a2, a3, a4⟩ := show_nice x h.1
    obtain ⟨b1, b2, b3, b4⟩ := show_niceL xs h.2
    refine ⟨by rw [hasObs, a1, b1]; rfl, by simp only [bares, PyData.showableAll, a2, b2, Bool.and_self], by simp only [bares, PyData.depthAll, dpoAll]; omega, ?_⟩
    simp only [bares, PyData.shownAll, List.map_cons, List.sum_cons, List.length_cons, countAll]
    omega
end
theorem Nc.odd {c k : Nat} {d : PyData} (h : Nc c k d) (hc : c ≤ 1000) : Dw.odd d = true := odd_nice d h.1 (Nat.le_trans h.2.1 hc)
theorem Nc.show {c k : Nat} {d : PyData} (h : Nc c k d) (hc : c ≤ 1000) (hk : k ≤ 64) : ShowO d := by
  obtain ⟨h1, h2, h3, h4⟩ := show_nice d h.1
  unfold ShowO
  rw [if_neg (by rw [h1]; exact Bool.false_ne_true)]
  have := h.2
  exact ⟨h2, by omega, Nat.le_trans h4 (by rw [sizeLine_eq]; omega)⟩
end B
namespace B
open PySem PySem.Spec PyProof.Rows L2 Dw
local macro_rules | `(tactic| walk_at "ds") => `(tactic| try dsimp only [wReprO, wMakeF, wFldDc, wFldDh, wNmD, wPropD, wJoin, wJs, wFmt, wRevT, wCallX0, wCall0, wE0, wNevS, wLmul, wCntL, wCntL1, wIsE, wStrE, wForget, wBrw, wCallL, endL, wRet, wRetN, sPu, wThenX, wIfX, wRetX, wDropX, wSetX, wCallX, wCallP, uPu, wPu, uConsX, wRaise, wDc, wDcT, wDZ, wD1, wGet1, wGet2, wGetT, wThen, wIfS, wIf, wNotT, Dw.wTru, wB, w2, wV, wC, wCons, wNil, wCall, wCallO, wCallO1, endO, wCB, wLc, wSeq, wYes, wNext, wNever, wDrop, wSet, wAsg, wPair, wFor, wTup, wLst, wAndV, wOrV, wNotV, wNeg, wAndT, wOrT, wIsi, wChain, wSlice, wPart, wNo, wZip, wEnum, wRng1, wRng2, wLc2, wApp, wApp1, wPop, wPop1, wExt, wExt1, wSetI, wSetI1, wSetD, wDat, wTupRg, wLstRg, wTupS, wCBX, wCallE, wCallPE, rngL, wIdx, wIdx1, wExtL, wExtL1, wLenM, wNotInM, wGetM, wPutM, wPutM1, wSetK, wTri, wForget, rCatTD, rCatLD, intsR, Option.map_some, bN, bTup, bCons, bNil, as_d, as_l, as_b, noB_d, noB_l, still_d, still_l, still_b, put_d, put_l, tru_bool, tru_tup, tru_lst, isT_tup, isI_int, isB_int, stillA_nil, stillA_cons, map0, map1, map2, map3, len_l, len_t, tup_l, tup_t, lst_l, lst_t, max_i, min_i, List.all_cons, List.all_nil, Bool.and_self, Bool.and_true, Bool.not_true, Bool.not_false, List.getElem?_cons_zero, List.getElem?_cons_succ, List.cons_append, List.nil_append, List.append_nil, List.reduceReplicate, Nat.reduceSub, Nat.sub_self, rI1, rI2, rAddD, rSubD, rMulD, rDivD, rModD, rPowD, rLtD, rLeD, rGtD, rGeD, List.set_cons_zero, List.set_cons_succ, List.set_nil, endsOf, outD, wipeD])
abbrev NS : List Str := ["Sheet"]
abbrev FL : List Str := ["columns", "kept_rules", "held", "past"]
section
variable {b : WB} {t : WT} {el : WE} {vs : List Nat} {k : List PyData → Dl → Prop} {δ : Dl}
end
theorem eqvA_ints : ∀ (a b : List Int), PyData.eqvAll (a.map PyData.int) (b.map PyData.int) = decide (a = b)
  | [], [] => rfl
  | [], _ :: _ => rfl
  | _ :: _, [] => rfl
  | x :: a, y :: b => by
    rw [List.map_cons, List.map_cons, PyData.eqvAll, eqvA_ints a b, eqv_int, Bool.eq_iff_iff]
    simp
theorem eqv_intL (a b : List Int) : PyData.eqv (.list (a.map PyData.int)) (.list (b.map PyData.int)) = decide (a = b) := by
  rw [PyData.eqv]; exact eqvA_ints a b
theorem asc_ofB : ∀ {ns : List Int}, ascB (ns.map PyData.int) = true → ns.Pairwise (· < ·)
  | [], _ => .nil
  | [x], _ => List.pairwise_singleton _ _
  | x :: y :: r, h => by
    have h : (decide (x < y) && ascB ((y :: r).map PyData.int)) = true := h
    rw [Bool.and_eq_true, decide_eq_true_eq] at h
    have ih := asc_ofB h.2
    refine List.pairwise_cons.mpr ⟨fun z hz => ?_, ih⟩
    rcases List.mem_cons.mp hz with rfl | hz
    · exact h.1
    · have := (List.pairwise_cons.mp ih).1 z hz; omega
theorem lk_putV {f g : Str} {w : Fv} : ∀ {fs : List (Str × Fv)}, (putV f w fs).lookup g = if g = f then some w else fs.lookup g
  | [] => by
    unfold putV
    by_cases z : g = f
    · rw [if_pos z, z, List.lookup_cons, beq_self_eq_true]
    · rw [if_neg z, List.lookup_cons, beq_eq_false_iff_ne.mpr z]
  | (a, b) :: fs => by
    unfold putV
    by_cases y : a = f
    · subst y
      rw [if_pos rfl, List.lookup_cons, List.lookup_cons]
      by_cases z : g = a
      · subst z; rw [beq_self_eq_true, if_pos rfl]
      · rw [beq_eq_false_iff_ne.mpr z, if_neg z]
    · rw [if_neg y, List.lookup_cons, List.lookup_cons, lk_putV]
      by_cases z : g = f
      · subst z
        rw [beq_eq_false_iff_ne.mpr (fun q => y q.symm)]
      · rw [if_neg z, if_neg z]
theorem putF_v {δ : Dl} {i : Nat} {f : Str} {we : WE} {Q : DEnds} {x : PyData} {o : Ob} (e : δ[i]? = some (.s o)) (hn : o.n ∈ NS) (hl : o.fs.length < 1000) (hno : ∀ p xs, o.fs.lookup f ≠ some (.l p xs)) (hw : ∀ R : Rv → Dl → Prop, R (.d x) δ → we δ R) (h : Q.nx (δ.set i (.s { o with fs := putV f (.d x) o.fs }))) : wPutF NS i f we Q δ := by
  unfold wPutF
  refine hw _ ?_
  try dsimp only
  rw [e]
  exact ⟨⟨hn, hl, hno⟩, h⟩
theorem putF_w {δ : Dl} {i : Nat} {f : Str} {we : WE} {Q : DEnds} {o : Ob} (e : δ[i]? = some (.s o)) (hn : o.n ∈ NS) (hl : o.fs.length < 1000) (hno : ∀ p xs, o.fs.lookup f ≠ some (.l p xs)) (hw : ∀ R : Rv → Dl → Prop, R (.l []) δ → we δ R) (h : ∀ p, Q.nx (δ.set i (.s { o with fs := putV f (.l p []) o.fs }))) : wPutF NS i f we Q δ := by
  unfold wPutF
  refine hw _ ?_
  try dsimp only
  rw [e]
  exact ⟨⟨hn, hl, hno⟩, fun p _ => h p⟩
theorem putV_len {f : Str} {w : Fv} : ∀ {fs : List (Str × Fv)}, (putV f w fs).length ≤ fs.length + 1
  | [] => by simp [putV]
  | (a, b) :: fs => by
    unfold putV
    by_cases y : a = f
    · rw [if_pos y]; simp
    · rw [if_neg y, List.length_cons, List.length_cons]; have := putV_len (f := f) (w := w) (fs := fs); omega
end B
namespace B
open PySem PySem.Spec PyProof.Rows L2 Dw TL
def readO (l : List Nat) : Option Rule := match (wordsOf l).reverse with
  | t :: a :: g => if a = [62] then some ((g.reverse).map readN, readN t) else none
  | _ => none
def ruleO : Option Rule → PyData
  | some r => ruleD r
  | none => .none
def readR (l : List Nat) : PyData := ruleO (readO l)
def rulesA (ls : List (List Nat)) : PyData := .tuple (ls.map readR)
def pairA (m : Int) (ls : List (List Nat)) : PyData := .tuple [.int m, rulesA ls]
def parsR (a : List Nat) : Option PyData := match headA a with
  | none => none
  | some (m, ls) => if rulesB m (rulesA ls) = true then some (pairA m ls) else none
def parsRD : PyData → Option PyData
  | .str z => parsR z.cps.toList
  | _ => none
theorem parsR_none {a : List Nat} (q : headA a = none) : parsR a = none := by
  unfold parsR
  rw [q]
theorem parsR_some {a : List Nat} {m : Int} {ls : List (List Nat)} (q : headA a = some (m, ls)) : parsR a = if rulesB m (rulesA ls) = true then some (pairA m ls) else none := by
  unfold parsR
  rw [q]
theorem readO_of {l : List Nat} {g : List (List Nat)} {a t : List Nat} (e : wordsOf l = g ++ [a, t]) : readO l = if a = [62] then some (g.map readN, readN t) else none := by
  unfold readO
  rw [e, List.reverse_append]
  show (if a = [62] then some ((g.reverse.reverse).map readN, readN t) else none) = _
  rw [List.reverse_reverse]
theorem words_two {ws : List (List Nat)} (h : 2 ≤ ws.length) : ∃ g a t, ws = g ++ [a, t] := by
  refine ⟨ws.take (ws.length - 2), ws[ws.length - 2], ws[ws.length - 1], ?_⟩
  have h1 : ws.drop (ws.length - 2) = [ws[ws.length - 2], ws[ws.length - 1]] := by
    rw [List.drop_eq_getElem_cons (by omega), List.drop_eq_getElem_cons (by omega), List.drop_of_length_le (by omega)]
    have : ws.length - 2 + 1 = ws.length - 1 := by omega
    congr 2
    simp only [this]
  rw [← h1, List.take_append_drop]
theorem readO_few {l : List Nat} (h : (wordsOf l).length < 2) : readO l = none := by
  unfold readO
  split
  · rename_i t a g e
    have := congrArg List.length e
    rw [List.length_reverse, List.length_cons, List.length_cons] at this
    omega
  · rfl
theorem odd_readR {l : List Nat} (h : l.length ≤ 999) : odd (readR l) = true := by
  unfold readR
  by_cases h2 : 2 ≤ (wordsOf l).length
  · obtain ⟨g, a, t, e⟩ := words_two h2
    rw [readO_of e]
    split
    · have hl := words_len (l := l)
      rw [e, List.length_append] at hl
      refine odd_tup (by simp) fun y hy => ?_
      simp only [List.mem_cons, List.not_mem_nil, or_false] at hy
      rcases hy with rfl | rfl
      · refine odd_tup (by rw [List.length_map, List.length_map]; simp only [List.length_cons, List.length_nil] at hl; omega) fun y hy => ?_
        obtain ⟨x, _, rfl⟩ := List.mem_map.mp hy
        rfl
      · rfl
    · rfl
  · rw [readO_few (by omega)]; rfl
theorem odd_rulesA {ls : List (List Nat)} (h : ls.length ≤ 1000) (h2 : ∀ l ∈ ls, l.length ≤ 999) : odd (rulesA ls) = true := by
  refine odd_tup (by rw [List.length_map]; exact h) fun x hx => ?_
  obtain ⟨l, hl, rfl⟩ := List.mem_map.mp hx
  exact odd_readR (h2 l hl)
def inR (m i : Int) : Bool := decide (0 ≤ i) && decide (i < m)
def okR (m : Int) : Option Rule → Bool
  | none => false
  | some (g, t) => (g.all (inR m) && inR m t) && (!decide (t ∈ g) && decide (g.Pairwise (· < ·)))
theorem inB_ints (t : Int) (g : List Int) : innB (.int t) (iT g) = decide (t ∈ g) := by
  show (g.map PyData.int).any (fun x => decide (intOf x = intOf (.int t))) = _
  rw [List.any_map, Bool.eq_iff_iff, List.any_eq_true, decide_eq_true_eq]
  constructor
  · rintro ⟨x, hx, e⟩
    have e : x = t := of_decide_eq_true e
    exact e ▸ hx
  · intro h
    exact ⟨t, h, decide_eq_true rfl⟩
theorem ascB_ints (g : List Int) : ascB (g.map PyData.int) = decide (g.Pairwise (· < ·)) := by
  by_cases h : g.Pairwise (· < ·)
  · rw [ascB_of h, decide_eq_true h]
  · rw [decide_eq_false h, Bool.eq_false_iff]
    exact fun z => h (asc_ofB z)
theorem num_in (m i : Int) : numB 0 (m - 1) (.int i) = inR m i := by
  show (decide (0 ≤ i) && decide (i ≤ m - 1)) = (decide (0 ≤ i) && decide (i < m))
  congr 1
  rw [decide_eq_decide]; omega
theorem ruleB_ruleO (m : Int) (r : Option Rule) : ruleB m (ruleO r) = okR m r := by
  cases r with
  | none => rfl
  | some r =>
    obtain ⟨g, t⟩ := r
    show (((g.map PyData.int).all (numB 0 (m - 1)) && ascB (g.map PyData.int)) && (numB 0 (m - 1) (.int t) && !innB (.int t) (iT g))) = _
    have e1 : (numB 0 (m - 1) ∘ PyData.int) = inR m := funext fun i => num_in m i
    rw [List.all_map, e1, ascB_ints, num_in, inB_ints]
    show _ = ((g.all (inR m) && inR m t) && (!decide (t ∈ g) && decide (g.Pairwise (· < ·))))
    cases g.all (inR m) <;> cases inR m t <;> cases decide (t ∈ g) <;> cases decide (g.Pairwise (· < ·)) <;> rfl
theorem rulesB_rulesA (m : Int) (ls : List (List Nat)) : rulesB m (rulesA ls) = (decide (ls.length ≤ 8) && ls.all fun l => okR m (readO l)) := by
  show (decide ((ls.map readR).length ≤ 8) && (ls.map readR).all (ruleB m)) = _
  rw [List.length_map, List.all_map]
  have : (ruleB m ∘ readR) = fun l => okR m (readO l) := funext fun l => ruleB_ruleO m (readO l)
  rw [this]
theorem okR_rule {m : Int} {r : Rule} (m5 : m ≤ 5) (h : okR m (some r) = true) : RuleOk m r := by
  obtain ⟨g, t⟩ := r
  have h : ((g.all (inR m) && inR m t) && (!decide (t ∈ g) && decide (g.Pairwise (· < ·)))) = true := h
  rw [Bool.and_eq_true, Bool.and_eq_true, Bool.and_eq_true, List.all_eq_true, Bool.not_eq_true', decide_eq_false_iff_not, decide_eq_true_eq] at h
  obtain ⟨⟨h1, h2⟩, h3, h4⟩ := h
  have rg : ∀ i, inR m i = true → 0 ≤ i ∧ i < m := fun i hi => by
    unfold inR at hi
    rw [Bool.and_eq_true, decide_eq_true_eq, decide_eq_true_eq] at hi
    exact hi
  refine ⟨⟨?_, h4, fun c hc => rg c (h1 c hc)⟩, (rg t h2).1, (rg t h2).2, h3⟩
  have : ∀ (k : Nat) (g : List Int) (lo : Int), g.Pairwise (· < ·) → (∀ c ∈ g, lo ≤ c ∧ c < lo + k) → g.length ≤ k := by
    intro k
    induction k with
    | zero =>
      intro g lo _ hg
      cases g with
      | nil => simp
      | cons c g => have := hg c (by simp); omega
    | succ k ih =>
      intro g lo hp hg
      cases g with
      | nil => simp
      | cons c g =>
        have hc := hg c (by simp)
        have := ih g (lo + 1) (List.pairwise_cons.mp hp).2 fun d hd => by
          have h1 := hg d (List.mem_cons_of_mem _ hd)
          have h2 := (List.pairwise_cons.mp hp).1 d hd
          omega
        rw [List.length_cons]; omega
  exact this 5 g 0 h4 fun c hc => by have := rg c (h1 c hc); omega
theorem rulesA_ok {m : Int} {ls : List (List Nat)} (m5 : m ≤ 5) (h : rulesB m (rulesA ls) = true) : ∃ rl, rulesA ls = rulesD rl ∧ RulesOk m rl := by
  rw [rulesB_rulesA, Bool.and_eq_true, decide_eq_true_eq, List.all_eq_true] at h
  obtain ⟨h8, ha⟩ := h
  have : ∀ ls : List (List Nat), (∀ l ∈ ls, okR m (readO l) = true) → ∃ rl : List Rule, rl.length = ls.length ∧ ls.map readR = rl.map ruleD ∧ ∀ r ∈ rl, RuleOk m r := by
    intro ls
    induction ls with
    | nil => exact fun _ => ⟨[], rfl, rfl, fun r hr => by cases hr⟩
    | cons l ls ih =>
      intro h
      obtain ⟨rl, e1, e2, e3⟩ := ih fun x hx => h x (List.mem_cons_of_mem _ hx)
      have hl := h l (by simp)
      cases q : readO l with
      | none => rw [q] at hl; cases hl
      | some r =>
        rw [q] at hl
        refine ⟨r :: rl, by rw [List.length_cons, List.length_cons, e1], by rw [List.map_cons, List.map_cons, e2]; unfold readR; rw [q]; rfl, fun x hx => ?_⟩
        rcases List.mem_cons.mp hx with rfl | hx
        · exact okR_rule m5 hl
        · exact e3 x hx
  obtain ⟨rl, e1, e2, e3⟩ := this ls ha
  exact ⟨rl, by unfold rulesA rulesD; rw [e2], ⟨by omega, e3⟩⟩
def ruleW (r : Rule) : List Nat := joinL [32] (r.1.map (fun c => numL c.toNat) ++ [[62], numL r.2.toNat])
def textR (m : Int) (rl : List Rule) : List Nat := joinL [10] (headL m :: rl.map ruleW) ++ [10]
theorem ruleW_free (r : Rule) : 10 ∉ ruleW r := fun h => by
  rcases joinL_mem h with h | ⟨p, hp, h⟩
  · simp at h
  · rcases List.mem_append.mp hp with hp | hp
    · obtain ⟨c, _, rfl⟩ := List.mem_map.mp hp
      exact numL_free (.inl (by decide)) h
    · simp only [List.mem_cons, List.not_mem_nil, or_false] at hp
      rcases hp with rfl | rfl
      · simp at h
      · exact numL_free (.inl (by decide)) h
theorem words_ruleW (r : Rule) : wordsOf (ruleW r) = r.1.map (fun c => numL c.toNat) ++ [[62], numL r.2.toNat] := by
  refine spl_join (by simp) fun p hp => ?_
  rcases List.mem_append.mp hp with hp | hp
  · obtain ⟨c, _, rfl⟩ := List.mem_map.mp hp
    exact numL_free (.inl (by decide))
  · simp only [List.mem_cons, List.not_mem_nil, or_false] at hp
    rcases hp with rfl | rfl
    · decide
    · exact numL_free (.inl (by decide))
theorem readR_ruleW {m : Int} {r : Rule} (m5 : m ≤ 5) (h : RuleOk m r) : readR (ruleW r) = ruleD r := by
  unfold readR
  rw [readO_of (words_ruleW r), if_pos rfl]
  have num : ∀ c : Int, 0 ≤ c → c < m → readN (numL c.toNat) = c := fun c h0 h1 => by rw [numRead (by omega)]; omega
  show ruleD _ = ruleD r
  congr 1
  refine Prod.ext ?_ (num _ h.lo h.hi)
  show (r.1.map fun c => numL c.toNat).map readN = r.1
  rw [List.map_map]
  conv => rhs; rw [← List.map_id r.1]
  exact List.map_congr_left fun c hc => num c (h.cols.inn c hc).1 (h.cols.inn c hc).2
theorem lines_textR (m : Int) (rl : List Rule) : linesOf (textR m rl) = headL m :: rl.map ruleW := by
  unfold linesOf textR
  rw [List.length_append, List.length_singleton, Nat.add_sub_cancel, List.take_left]
  refine spl_join (by simp) fun p hp => ?_
  rcases List.mem_cons.mp hp with rfl | hp
  · exact headL_free m
  · obtain ⟨r, _, rfl⟩ := List.mem_map.mp hp
    exact ruleW_free r
theorem read_textR {m : Int} {rl : List Rule} (m1 : 1 ≤ m) (m5 : m ≤ 5) (h : RulesOk m rl) : parsR (textR m rl) = some (.tuple [.int m, rulesD rl]) := by
  have hm : readN (numL m.toNat) = m := by rw [numRead (by omega)]; omega
  have hh : headA (textR m rl) = some (m, rl.map ruleW) := by
    rw [headA_cons (by unfold textR; rw [List.length_append, List.length_singleton, Nat.add_sub_cancel, List.drop_left]) (lines_textR m rl), words_head]
    have : headW [colW, numL m.toNat] = some m := by
      show (if colW = colW ∧ 1 ≤ readN (numL m.toNat) ∧ readN (numL m.toNat) ≤ 5 then some (readN (numL m.toNat)) else none) = _
      rw [hm, if_pos ⟨rfl, m1, m5⟩]
    rw [this]; rfl
  have e : rulesA (rl.map ruleW) = rulesD rl := by
    unfold rulesA rulesD
    rw [List.map_map]
    congr 1
    exact List.map_congr_left fun r hr => readR_ruleW m5 (h.all r hr)
  rw [parsR_some hh, e, if_pos (rules_okB h)]
  unfold pairA
  rw [e]
end B
namespace B
open PySem PySem.Spec PyProof.Rows L2 Dw TL
local macro_rules | `(tactic| walk_at "ds") => `(tactic| try dsimp only [wSplit, wJoinT, wEndsW, wUpper, wSliceS, wReplC, wSeqS, wTupE, rLenSD, rIntSD, rInSg, rMulSD, rStrID, wCallG, gOwn, gNo, wReprO, wMakeF, wFldDc, wFldDh, wNmD, wPropD, wJoin, wJs, wFmt, wRevT, wCallX0, wCall0, wE0, wNevS, wLmul, wCntL, wCntL1, wIsE, wStrE, wForget, wBrw, wCallL, endL, wRet, wRetN, sPu, wThenX, wIfX, wRetX, wDropX, wSetX, wCallX, wCallP, uPu, wPu, uConsX, wRaise, wDc, wDcT, wDZ, wD1, wGet1, wGet2, wGetT, wThen, wIfS, wIf, wNotT, Dw.wTru, wB, w2, wV, wC, wCons, wNil, wCall, wCallO, wCallO1, endO, wCB, wLc, wSeq, wYes, wNext, wNever, wDrop, wSet, wAsg, wPair, wFor, wTup, wLst, wAndV, wOrV, wNotV, wNeg, wAndT, wOrT, wIsi, wChain, wSlice, wPart, wNo, wZip, wEnum, wRng1, wRng2, wLc2, wApp, wApp1, wPop, wPop1, wExt, wExt1, wSetI, wSetI1, wSetD, wDat, wTupRg, wLstRg, wTupS, wCBX, wCallE, wCallPE, rngL, wIdx, wIdx1, wExtL, wExtL1, wLenM, wNotInM, wGetM, wPutM, wPutM1, wSetK, wTri, wForget, rCatTD, rCatLD, intsR, Option.map_some, bN, bTup, bCons, bNil, as_d, as_l, as_b, noB_d, noB_l, still_d, still_l, still_b, put_d, put_l, tru_bool, tru_tup, tru_lst, isT_tup, isI_int, isB_int, stillA_nil, stillA_cons, map0, map1, map2, map3, len_l, len_t, tup_l, tup_t, lst_l, lst_t, max_i, min_i, List.all_cons, List.all_nil, Bool.and_self, Bool.and_true, Bool.not_true, Bool.not_false, List.getElem?_cons_zero, List.getElem?_cons_succ, List.cons_append, List.nil_append, List.append_nil, List.reduceReplicate, Nat.reduceSub, Nat.sub_self, rI1, rI2, rAddD, rSubD, rMulD, rDivD, rModD, rPowD, rLtD, rLeD, rGtD, rGeD, List.set_cons_zero, List.set_cons_succ, List.set_nil, endsOf, outD, wipeD])
def TxOk (d : PyData) : Prop := odd d = true ∧ ∀ z, d = .str z → z.length ≤ 900
def strL (ls : List (List Nat)) : List PyData := ls.map fun l => .str (SX.S l)
def S_columns_line : WE := fun δ P => ∃ m : Int, δ = [.d (.int m)] ∧ 1 ≤ m ∧ m ≤ 5 ∧ P (.d (.str (SX.S (headL m ++ [10])))) δ
def S_read_number : WE := fun δ P => ∃ w : List Nat, δ = [.d (.str (SX.S w))] ∧ w.length ≤ 1000 ∧ P (.d (.int (readN w))) δ
def S_text_linesX : WEX := fun δ P PX => ∃ d, δ = [.d d] ∧ TxOk d ∧ ((∃ a, d = .str (SX.S a) ∧ a.drop (a.length - 1) = [10] ∧ P (.l (strL (linesOf a))) δ) ∨ ((∀ a, d = .str (SX.S a) → a.drop (a.length - 1) ≠ [10]) ∧ PX "NoText"))
def S_read_manyX : WEX := fun δ P PX => ∃ w : List Nat, δ = [.d (.str (SX.S w))] ∧ w.length ≤ 900 ∧ ((∃ m, headW (wordsOf w) = some m ∧ P (.d (.int m)) δ) ∨ (headW (wordsOf w) = none ∧ PX "NoText"))
def wb_columns_line : WS := (wRet (wJoin [(wC (.str "columns ")), (wFmt (wV 0)), (wC (.str "
"))]))
def wb_read_number : WS := (wThen (wIfS (wOrT (wNotT (wB (wChain rLeD rLeD (wC (.int 1)) (wCB rLenSD (wCons (wV 0) wNil)) (wC (.int 4))))) (wNotT (wTru (wCB rAllD (wCons (wLc (wSeqS (wV 0)) (bN 2) wYes (w2 (rInSg false) (wV 2) (wC (.str "0123456789"))) [2]) wNil))))) (wRet (wC (.int (-1)))) wNext)
      (wThen (wSet 1 (wCB rIntSD (wCons (wV 0) wNil)))
      (wRet (wIf (wB (w2 rEqT (wCB rStrID (wCons (wV 1) wNil)) (wV 0))) (wV 1) (wC (.int (-1)))))))
def wb_text_linesX : WSX := (wThenX (wIfX (wOrT (wNotT (wTru (wIsi isStrA (wV 0)))) (wNotT (wTru (wEndsW (wV 0) "
")))) (wRaise "NoText") (sPu wNext))
      (sPu (wRet (wSplit (wSliceS (wV 0) wNo (wPart (wNeg (wC (.int 1))))) "
"))))
def wb_read_manyX : WSX := (wThenX (sPu (wSet 1 (wSplit (wV 0) " ")))
      (wThenX (wIfX (wOrT (wB (w2 rNeT (wCB rLenD (wCons (wV 1) wNil)) (wC (.int 2)))) (wB (w2 rNeT (w2 rIxD (wV 1) (wC (.int 0))) (wC (.str "columns"))))) (wRaise "NoText") (sPu wNext))
      (wThenX (sPu (wSet 2 (wCall S_read_number (wCons (w2 rIxD (wV 1) (wC (.int 1))) wNil))))
      (wThenX (wIfX (wNotT (wTru (wCall S_is_manyA (wCons (wV 2) wNil)))) (wRaise "NoText") (sPu wNext))
      (sPu (wRet (wV 2)))))))
theorem sEq (a b : List Nat) : PyData.eqv (.str (SX.S a)) (.str (SX.S b)) = decide (a = b) := by
  show (SX.S a == SX.S b) = _
  exact SX.S_beq_eq
theorem sLen (a : List Nat) : (SX.S a).length = a.length := SX.S_len a
theorem lit_columns : ("columns " : Str) = SX.S (colW ++ [32]) := by decide +kernel
theorem lit_col : ("columns" : Str) = SX.S colW := by decide +kernel
theorem lit_nl : ("\n" : Str) = SX.S [10] := by decide +kernel
theorem lit_sp : (" " : Str) = SX.S [32] := by decide +kernel
theorem lit_no : ("" : Str) = SX.S [] := by decide +kernel
theorem str_nat {i : Int} (h : 0 ≤ i) : (toString i : Str) = SX.S (numL i.toNat) := by
  have : i = ((i.toNat : Nat) : Int) := by omega
  conv => lhs; rw [this]
  exact SX.num_S _
theorem small_log {i : Int} (h0 : 0 ≤ i) (h1 : i ≤ 99999) : i.natAbs.log2 < 1920 := by
  have : i.natAbs < 2 ^ 20 := by omega
  by_cases e : i.natAbs = 0
  · rw [e]; decide
  · exact Nat.lt_trans ((Nat.log2_lt e).mpr this) (by decide)
theorem numL_5 {i : Int} (h0 : 0 ≤ i) (h1 : i ≤ 9999) : (numL i.toNat).length ≤ 4 := numL_len (by decide) (by omega)
theorem hS_columns_line : ∀ δ P, S_columns_line δ P → ArgOk 1 δ ∧ wb_columns_line (endsOf δ P) (δ ++ List.replicate (1 - 1) Sl.un) := by
  rintro δ P ⟨m, rfl, m1, m5, h⟩
  refine ⟨argD [.int m], ?_⟩
  unfold wb_columns_line wRet wJoin
  have hn := numL_5 (i := m) (by omega) (by omega)
  have z3 : sizeLine ≥ 100000 := by rw [sizeLine_eq]; decide
  have e1 : Str.empty ++ ("columns " : Str) = SX.S (colW ++ [32]) := by decide +kernel
  have hc : colW.length = 7 := by decide +kernel
  unfold wJs wC
  dsimp only
  rw [e1]
  refine ⟨by rw [sLen, List.length_append, hc, List.length_singleton]; omega, ?_⟩
  unfold wJs wFmt
  walk_at "ds"
  rw [str_nat (by omega), SX.S_cat]
  refine ⟨small_log (by omega) (by omega), by rw [sLen, List.length_append, List.length_append, hc, List.length_singleton]; omega, ?_⟩
  rw [lit_nl, SX.S_cat]
  refine ⟨by rw [sLen, List.length_append, List.length_append, List.length_append, hc, List.length_singleton, List.length_singleton]; omega, ?_⟩
  have e2 : colW ++ [32] ++ numL m.toNat ++ [10] = headL m ++ [10] := by unfold headL; simp
  rw [e2]
  exact h
theorem cutL_from (xs : List PyData) (k : Nat) : Dw.cutD xs (some (k : Int)) none = xs.drop k := by
  unfold Dw.cutD
  rw [HT.sIx_none, HT.sIx_nat]
  rcases Nat.le_total k xs.length with z | z
  · rw [Nat.min_eq_left z, List.take_of_length_le (by rw [List.length_drop]; omega)]
  · rw [Nat.min_eq_right z, Nat.sub_self, List.take_zero, List.drop_of_length_le z]
theorem catS {a b : List Nat} {P : Rv → Prop} (hl : a.length + b.length ≤ 1000) (h : P (.d (.str (SX.S (a ++ b))))) : rCatSD (.str (SX.S a)) (.str (SX.S b)) P := by
  refine ⟨by rw [sLen, sLen]; exact hl, ?_⟩
  rw [SX.S_cat]; exact h
theorem strL_map (ys : List (List Nat)) : (ys.map SX.S).map PyData.str = strL ys := by unfold strL; rw [List.map_map]; rfl
theorem joinZ {sep : List Nat} {ys : List (List Nat)} (hz : (ys.map List.length).sum + ys.length * sep.length ≤ 100000) : ((ys.map SX.S).map (·.length)).sum + (ys.map SX.S).length * (SX.S sep).length ≤ 16777216 := by
  rw [SX.lens, List.length_map, sLen]
  exact Nat.le_trans hz (by decide)
theorem sumL {k : Nat} : ∀ {ys : List (List Nat)}, (∀ y ∈ ys, y.length ≤ k) → (ys.map List.length).sum ≤ ys.length * k
  | [], _ => by simp
  | y :: ys, h => by
    have h1 := h y (by simp)
    have h2 := sumL (k := k) (ys := ys) fun z hz => h z (List.mem_cons_of_mem _ hz)
    rw [List.map_cons, List.sum_cons, List.length_cons, Nat.add_mul]; omega
theorem joinL_len (S : List Nat) : ∀ ys : List (List Nat), (joinL S ys).length ≤ (ys.map List.length).sum + ys.length * S.length
  | [] => by simp [joinL]
  | [x] => by simp [joinL]
  | x :: y :: ys => by
    have := joinL_len S (y :: ys)
    show (x ++ (S ++ joinL S (y :: ys))).length ≤ _
    rw [List.length_append, List.length_append, List.map_cons, List.sum_cons, List.length_cons (a := x), Nat.add_mul]; omega
theorem hS_read_number : ∀ δ P, S_read_number δ P → ArgOk 1 δ ∧ wb_read_number (endsOf δ P) (δ ++ List.replicate (3 - 1) Sl.un) := by
  rintro δ P ⟨w, rfl, hw, h⟩
  refine ⟨argD [.str (SX.S w)], ?_⟩
  unfold wb_read_number
  refine seqT fun T hT => ?_
  walk_at "ds"
  have z3 : sizeLine ≥ 100000 := by rw [sizeLine_eq]; decide
  refine ⟨by rw [sLen]; omega, ?_⟩
  rw [sLen]
  by_cases q1 : 1 ≤ w.length
  case neg =>
    have e : readN w = -1 := by
      unfold readN digOk
      rw [decide_eq_false q1]; rfl
    rw [e] at h
    refine ifF (decide_eq_false (by omega)) ?_
    refine ifT rfl ?_
    exact ifT rfl h
  refine ifT (decide_eq_true (by omega)) ?_
  by_cases q2 : w.length ≤ 4
  case neg =>
    have e : readN w = -1 := by
      unfold readN digOk
      rw [decide_eq_false q2, Bool.and_false]; rfl
    rw [e] at h
    refine ifT (by rw [decide_eq_false (by omega)]; rfl) ?_
    exact ifT rfl h
  refine ifF (by rw [decide_eq_true (by omega)]; rfl) ?_
  refine ⟨SX.S w, rfl, ⟨by rw [List.length_map]; show w.length ≤ 100000; omega, rfl⟩, ?_⟩
  show wGo _ _ _ _ _ (w.map fun c => PyData.str ⟨#[c]⟩) _ _
  refine go_mapT (fun c => PyData.str ⟨#[c]⟩) (fun c => PyData.bool (isDig c)) w (fun c hc C C' h2 => ?_) ?_
  · walk_at "ds"
    refine ifT rfl ?_
    refine ⟨c, _, rfl, rfl, rfl, ?_⟩
    rw [in_digits, Bool.bne_false]
    exact h2
  refine all_ok (w.map isDig) (by rw [List.map_map]; rfl) ?_
  have ea : (w.map isDig).all id = w.all isDig := by rw [List.all_map]; rfl
  rw [ea]
  walk_at "ds"
  have ed : digOk w = w.all isDig := by
    unfold digOk
    rw [decide_eq_true q1, decide_eq_true q2]; rfl
  cases qa : w.all isDig with
  | false =>
    have e : readN w = -1 := by
      unfold readN
      rw [ed, qa]; rfl
    rw [e] at h
    exact ifT rfl h
  | true =>
    refine ifF rfl ?_
    rw [hT]
    have hd : digOk w = true := by rw [ed, qa]
    have hv := val_le hd
    walk_at "ds"
    refine ⟨_, int_w hd, by rw [sLen]; omega, ?_⟩
    walk_at "ds"
    refine ⟨small_log (by omega) (by omega), ?_⟩
    rw [str_nat (by omega)]
    refine eq_ok (k := !zed w) rfl ?_ ?_
    · rw [sEq, ← num_back hd]
      have : ((NumText.digitsVal w : Nat) : Int).toNat = NumText.digitsVal w := rfl
      rw [this]
      cases qq : (numL (NumText.digitsVal w) == w) with
      | true => exact decide_eq_true (eq_of_beq qq)
      | false => exact decide_eq_false (beq_eq_false_iff_ne.mp qq)
    walk_at "ds"
    have er : readN w = if zed w = true then -1 else ((NumText.digitsVal w : Nat) : Int) := by
      unfold readN
      rw [if_pos hd]
    rw [er] at h
    cases qz : zed w with
    | true => rw [qz] at h; exact ifF rfl h
    | false => rw [qz] at h; exact ifT rfl h
theorem splitS {a : List Nat} {s : Nat} (hs : s < 256) : (Txt.split (SX.S a) (SX.S [s])).map PyData.str = strL (spl [s] 0 [] a) := by
  rw [SX.split_S (by simp) (by simp [hs]), strL_map]
theorem ends_nl (a : List Nat) : Txt.endswith (SX.S a) (SX.S [10]) = decide (a.drop (a.length - 1) = [10]) := by
  show (decide (0 + (SX.S [10]).length ≤ (SX.S a).length) && Builtin.Str.subAt (SX.S a) (SX.S [10]) ((SX.S a).length - (SX.S [10]).length)) = _
  rw [sLen, sLen]
  show (decide (0 + 1 ≤ a.length) && (a.toArray.extract (a.length - 1) (a.length - 1 + 1) == [10].toArray)) = _
  by_cases h : 1 ≤ a.length
  · rw [decide_eq_true (by omega), Bool.true_and]
    have e : a.toArray.extract (a.length - 1) (a.length - 1 + 1) = (a.drop (a.length - 1)).toArray := by
      apply Array.toList_inj.mp
      rw [Array.toList_extract]
      show List.extract a _ _ = _
      unfold List.extract
      rw [List.take_of_length_le (by rw [List.length_drop]; omega)]
    rw [e]
    by_cases q : a.drop (a.length - 1) = [10]
    · rw [q]; decide
    · rw [decide_eq_false q]
      rw [beq_eq_false_iff_ne]
      intro z
      exact q (by simpa using congrArg Array.toList z)
  · have : a = [] := List.length_eq_zero_iff.mp (by omega)
    subst this
    rfl
theorem hS_text_linesX : ∀ δ P PX, S_text_linesX δ P PX → ArgOk 1 δ ∧ wb_text_linesX (endsOf δ P) PX (δ ++ List.replicate (1 - 1) Sl.un) := by
  rintro δ P PX ⟨d, rfl, ⟨ho, hz⟩, h⟩
  refine ⟨argD [d], ?_⟩
  unfold wb_text_linesX isStrA
  have z3 : sizeLine ≥ 100000 := by rw [sizeLine_eq]; decide
  walk_at "ds"
  rw [isA ho]
  cases d with
  | str z =>
    obtain ⟨a, rfl⟩ : ∃ a, z = SX.S a := ⟨z.cps.toList, (SX.S_tl z).symm⟩
    have hl := hz _ rfl
    rw [sLen] at hl
    refine ifF rfl ?_
    refine ⟨_, rfl, ?_⟩
    rw [lit_nl, ends_nl]
    rcases h with ⟨a', ea, hd, h⟩ | ⟨hn, h⟩
    · have ea : a = a' := by
        have := congrArg (fun d => match d with | PyData.str z => z.cps.toList | _ => []) ea
        exact this
      subst ea
      refine ifF (by rw [decide_eq_true hd]; rfl) ?_
      refine ⟨_, rfl, by rw [sLen]; omega, ?_⟩
      have hne : a ≠ [] := fun e => by rw [e] at hd; cases hd
      rw [SX.slice_butlast hne]
      refine ⟨_, rfl, by rw [sLen, List.length_take]; omega, ?_⟩
      rw [splitS (by decide)]
      exact h
    · refine ifT (by rw [decide_eq_false (hn a rfl)]; rfl) ?_
      exact h
  | _ =>
    refine ifT rfl ?_
    refine ifT rfl ?_
    rcases h with ⟨a', ea, _⟩ | ⟨_, h⟩
    · cases ea
    · exact h
theorem hS_read_manyX : ∀ δ P PX, S_read_manyX δ P PX → ArgOk 1 δ ∧ wb_read_manyX (endsOf δ P) PX (δ ++ List.replicate (3 - 1) Sl.un) := by
  rintro δ P PX ⟨w, rfl, hw, h⟩
  refine ⟨argD [.str (SX.S w)], ?_⟩
  unfold wb_read_manyX
  have z3 : sizeLine ≥ 100000 := by rw [sizeLine_eq]; decide
  walk_at "ds"
  refine ⟨SX.S w, rfl, by rw [sLen]; omega, ?_⟩
  rw [lit_sp, splitS (by decide)]
  walk_at "ds"
  have ew : spl [32] 0 [] w = wordsOf w := rfl
  rw [ew]
  have wl : ∀ y ∈ wordsOf w, y.length ≤ w.length := fun y hy => word_len hy
  have hsl : (strL (wordsOf w)).length = (wordsOf w).length := by unfold strL; rw [List.length_map]
  refine ⟨rfl, ?_⟩
  rw [hsl]
  refine ne_ok (k := decide ((wordsOf w).length = 2)) rfl ?_ ?_
  · rw [eqv_int, decide_eq_decide]; omega
  walk_at "ds"
  by_cases q2 : (wordsOf w).length = 2
  case neg =>
    refine ifT (by rw [decide_eq_false q2]; rfl) ?_
    refine ifT rfl ?_
    rcases h with ⟨m, e, _⟩ | ⟨_, h⟩
    · exfalso
      match wordsOf w, q2, e with
      | [], _, e => cases e
      | [_], _, e => cases e
      | [_, _], q2, _ => exact q2 rfl
      | _ :: _ :: _ :: _, _, e => cases e
    · exact h
  refine ifF (by rw [decide_eq_true q2]; rfl) ?_
  obtain ⟨x, y, exy⟩ : ∃ x y, wordsOf w = [x, y] := by
    match wordsOf w, q2 with
    | [x, y], _ => exact ⟨x, y, rfl⟩
  rw [exy] at h wl ⊢
  unfold strL
  walk_at "ds"
  refine ⟨rfl, ?_⟩
  refine lstix (z := .str (SX.S x)) rfl ?_
  walk_at "ds"
  rw [lit_col]
  refine ne_ok (k := decide (x = colW)) rfl (sEq _ _) ?_
  walk_at "ds"
  by_cases qx : x = colW
  case neg =>
    refine ifT (by rw [decide_eq_false qx]; rfl) ?_
    rcases h with ⟨m, e, _⟩ | ⟨_, h⟩
    · have eh : headW [x, y] = if x = colW ∧ 1 ≤ readN y ∧ readN y ≤ 5 then some (readN y) else none := rfl
      rw [eh, if_neg (fun z => qx z.1)] at e
      cases e
    · exact h
  refine ifF (by rw [decide_eq_true qx]; rfl) ?_
  refine ⟨rfl, ?_⟩
  refine lstix (z := .str (SX.S y)) rfl ?_
  walk_at "ds"
  refine ⟨rfl, y, rfl, by have := wl y (by simp); omega, ?_⟩
  walk_at "ds"
  refine ⟨rfl, .int (readN y), rfl, rfl, ?_⟩
  walk_at "ds"
  have em : manyB (.int (readN y)) = (decide (1 ≤ readN y) && decide (readN y ≤ 5)) := rfl
  have eh : headW [x, y] = if x = colW ∧ 1 ≤ readN y ∧ readN y ≤ 5 then some (readN y) else none := rfl
  rw [em]
  by_cases qm : 1 ≤ readN y ∧ readN y ≤ 5
  · refine ifF (by rw [decide_eq_true qm.1, decide_eq_true qm.2]; rfl) ?_
    rcases h with ⟨m, e, h⟩ | ⟨e, h⟩
    · rw [eh, if_pos ⟨qx, qm⟩] at e
      cases e
      exact h
    · rw [eh, if_pos ⟨qx, qm⟩] at e
      cases e
  · refine ifT ?_ ?_
    · have : (decide (1 ≤ readN y) && decide (readN y ≤ 5)) = false := by
        rw [Bool.eq_false_iff]
        intro z
        rw [Bool.and_eq_true, decide_eq_true_eq, decide_eq_true_eq] at z
        exact qm z
      rw [this]; rfl
    rcases h with ⟨m, e, h⟩ | ⟨e, h⟩
    · rw [eh, if_neg (fun z => qm z.2)] at e
      cases e
    · exact h
end B
namespace B
open PySem PySem.Spec PyProof.Rows L2 Dw
local macro_rules | `(tactic| walk_at "ds") => `(tactic| try dsimp only [wReprO, wMakeF, wFldDc, wFldDh, wNmD, wPropD, wJoin, wJs, wFmt, wRevT, wCallX0, wCall0, wE0, wNevS, wLmul, wCntL, wCntL1, wIsE, wStrE, wForget, wBrw, wCallL, endL, wRet, wRetN, sPu, wThenX, wIfX, wRetX, wDropX, wSetX, wCallX, wCallP, uPu, wPu, uConsX, wRaise, wDc, wDcT, wDZ, wD1, wGet1, wGet2, wGetT, wThen, wIfS, wIf, wNotT, Dw.wTru, wB, w2, wV, wC, wCons, wNil, wCall, wCallO, wCallO1, endO, wCB, wLc, wSeq, wYes, wNext, wNever, wDrop, wSet, wAsg, wPair, wFor, wTup, wLst, wAndV, wOrV, wNotV, wNeg, wAndT, wOrT, wIsi, wChain, wSlice, wPart, wNo, wZip, wEnum, wRng1, wRng2, wLc2, wApp, wApp1, wPop, wPop1, wExt, wExt1, wSetI, wSetI1, wSetD, wDat, wTupRg, wLstRg, wTupS, wCBX, wCallE, wCallPE, rngL, wIdx, wIdx1, wExtL, wExtL1, wLenM, wNotInM, wGetM, wPutM, wPutM1, wSetK, wTri, wForget, rCatTD, rCatLD, intsR, Option.map_some, bN, bTup, bCons, bNil, as_d, as_l, as_b, noB_d, noB_l, still_d, still_l, still_b, put_d, put_l, tru_bool, tru_tup, tru_lst, isT_tup, isI_int, isB_int, stillA_nil, stillA_cons, map0, map1, map2, map3, len_l, len_t, tup_l, tup_t, lst_l, lst_t, max_i, min_i, List.all_cons, List.all_nil, Bool.and_self, Bool.and_true, Bool.not_true, Bool.not_false, List.getElem?_cons_zero, List.getElem?_cons_succ, List.cons_append, List.nil_append, List.append_nil, List.reduceReplicate, Nat.reduceSub, Nat.sub_self, rI1, rI2, rAddD, rSubD, rMulD, rDivD, rModD, rPowD, rLtD, rLeD, rGtD, rGeD, List.set_cons_zero, List.set_cons_succ, List.set_nil, endsOf, outD, wipeD])
local macro_rules | `(tactic| walk_at "tk") => `(tactic| repeat first | refine ⟨rfl, ?_⟩ | refine ⟨⟨rfl, of_decide_eq_true rfl⟩, ?_⟩ | refine ⟨⟨by decide, by decide, by decide⟩, ?_⟩ | refine ⟨of_decide_eq_true rfl, ?_⟩)
instance {c q : Nat} {d : PyData} : Decidable (Nc c q d) := inferInstanceAs (Decidable (_ ∧ _ ∧ _))
end B
namespace B
open PySem PySem.Spec PyProof.Rows L2 Dw
local macro_rules | `(tactic| walk_at "ds") => `(tactic| try dsimp only [wRet, wRetN, sPu, wThenX, wIfX, wRetX, wDropX, wSetX, wCallX, wCallP, uPu, wPu, uConsX, wRaise, wDc, wDcT, wDZ, wD1, wGet1, wGet2, wGetT, wThen, wIfS, wIf, wNotT, Dw.wTru, wB, w2, wV, wC, wCons, wNil, wCall, wCallO, wCallO1, endO, wCB, wLc, wSeq, wYes, wNext, wNever, wDrop, wSet, wAsg, wPair, wFor, wTup, wLst, wAndV, wOrV, wNotV, wNeg, wAndT, wOrT, wIsi, wChain, wSlice, wPart, wNo, wZip, wEnum, wRng1, wRng2, wLc2, wApp, wApp1, wPop, wPop1, wExt, wExt1, wSetI, wSetI1, wSetD, wDat, wTupRg, wLstRg, wTupS, wCBX, wCallE, wCallPE, rngL, wIdx, wIdx1, wExtL, wExtL1, wLenM, wNotInM, wGetM, wPutM, wPutM1, wSetK, wTri, wForget, rCatTD, rCatLD, intsR, Option.map_some, bN, bTup, bCons, bNil, as_d, as_l, as_b, noB_d, noB_l, still_d, still_l, still_b, put_d, put_l, tru_bool, tru_tup, tru_lst, isT_tup, isI_int, isB_int, stillA_nil, stillA_cons, map0, map1, map2, map3, len_l, len_t, tup_l, tup_t, lst_l, lst_t, max_i, min_i, List.all_cons, List.all_nil, Bool.and_self, Bool.and_true, Bool.not_true, Bool.not_false, List.getElem?_cons_zero, List.getElem?_cons_succ, List.cons_append, List.nil_append, List.append_nil, List.reduceReplicate, Nat.reduceSub, Nat.sub_self, rI1, rI2, rAddD, rSubD, rMulD, rDivD, rModD, rPowD, rLtD, rLeD, rGtD, rGeD, List.set_cons_zero, List.set_cons_succ, List.set_nil, endsOf, outD, wipeD])
end B
namespace B
open PySem PySem.Spec PyProof.Rows L2 Dw
local macro_rules | `(tactic| walk_at "ds") => `(tactic| try dsimp only [wReprO, wMakeF, wFldDc, wFldDh, wNmD, wPropD, wJoin, wJs, wFmt, wRevT, wCallX0, wCall0, wE0, wNevS, wLmul, wCntL, wCntL1, wIsE, wStrE, wForget, wBrw, wCallL, endL, wRet, wRetN, sPu, wThenX, wIfX, wRetX, wDropX, wSetX, wCallX, wCallP, uPu, wPu, uConsX, wRaise, wDc, wDcT, wDZ, wD1, wGet1, wGet2, wGetT, wThen, wIfS, wIf, wNotT, Dw.wTru, wB, w2, wV, wC, wCons, wNil, wCall, wCallO, wCallO1, endO, wCB, wLc, wSeq, wYes, wNext, wNever, wDrop, wSet, wAsg, wPair, wFor, wTup, wLst, wAndV, wOrV, wNotV, wNeg, wAndT, wOrT, wIsi, wChain, wSlice, wPart, wNo, wZip, wEnum, wRng1, wRng2, wLc2, wApp, wApp1, wPop, wPop1, wExt, wExt1, wSetI, wSetI1, wSetD, wDat, wTupRg, wLstRg, wTupS, wCBX, wCallE, wCallPE, rngL, wIdx, wIdx1, wExtL, wExtL1, wLenM, wNotInM, wGetM, wPutM, wPutM1, wSetK, wTri, wForget, rCatTD, rCatLD, intsR, Option.map_some, bN, bTup, bCons, bNil, as_d, as_l, as_b, noB_d, noB_l, still_d, still_l, still_b, put_d, put_l, tru_bool, tru_tup, tru_lst, isT_tup, isI_int, isB_int, stillA_nil, stillA_cons, map0, map1, map2, map3, len_l, len_t, tup_l, tup_t, lst_l, lst_t, max_i, min_i, List.all_cons, List.all_nil, Bool.and_self, Bool.and_true, Bool.not_true, Bool.not_false, List.getElem?_cons_zero, List.getElem?_cons_succ, List.cons_append, List.nil_append, List.append_nil, List.reduceReplicate, Nat.reduceSub, Nat.sub_self, rI1, rI2, rAddD, rSubD, rMulD, rDivD, rModD, rPowD, rLtD, rLeD, rGtD, rGeD, List.set_cons_zero, List.set_cons_succ, List.set_nil, endsOf, outD, wipeD])
end B
namespace B
open PySem PySem.Spec PyProof.Rows L2 Dw TL
local macro_rules | `(tactic| walk_at "ds") => `(tactic| try dsimp only [wSplit, wJoinT, wEndsW, wUpper, wSliceS, wReplC, wSeqS, wTupE, rLenSD, rIntSD, rInSg, rMulSD, rStrID, wCallG, gOwn, gNo, wReprO, wMakeF, wFldDc, wFldDh, wNmD, wPropD, wJoin, wJs, wFmt, wRevT, wCallX0, wCall0, wE0, wNevS, wLmul, wCntL, wCntL1, wIsE, wStrE, wForget, wBrw, wCallL, endL, wRet, wRetN, sPu, wThenX, wIfX, wRetX, wDropX, wSetX, wCallX, wCallP, uPu, wPu, uConsX, wRaise, wDc, wDcT, wDZ, wD1, wGet1, wGet2, wGetT, wThen, wIfS, wIf, wNotT, Dw.wTru, wB, w2, wV, wC, wCons, wNil, wCall, wCallO, wCallO1, endO, wCB, wLc, wSeq, wYes, wNext, wNever, wDrop, wSet, wAsg, wPair, wFor, wTup, wLst, wAndV, wOrV, wNotV, wNeg, wAndT, wOrT, wIsi, wChain, wSlice, wPart, wNo, wZip, wEnum, wRng1, wRng2, wLc2, wApp, wApp1, wPop, wPop1, wExt, wExt1, wSetI, wSetI1, wSetD, wDat, wTupRg, wLstRg, wTupS, wCBX, wCallE, wCallPE, rngL, wIdx, wIdx1, wExtL, wExtL1, wLenM, wNotInM, wGetM, wPutM, wPutM1, wSetK, wTri, wForget, rCatTD, rCatLD, intsR, Option.map_some, bN, bTup, bCons, bNil, as_d, as_l, as_b, noB_d, noB_l, still_d, still_l, still_b, put_d, put_l, tru_bool, tru_tup, tru_lst, isT_tup, isI_int, isB_int, stillA_nil, stillA_cons, map0, map1, map2, map3, len_l, len_t, tup_l, tup_t, lst_l, lst_t, max_i, min_i, List.all_cons, List.all_nil, Bool.and_self, Bool.and_true, Bool.not_true, Bool.not_false, List.getElem?_cons_zero, List.getElem?_cons_succ, List.cons_append, List.nil_append, List.append_nil, List.reduceReplicate, Nat.reduceSub, Nat.sub_self, rI1, rI2, rAddD, rSubD, rMulD, rDivD, rModD, rPowD, rLtD, rLeD, rGtD, rGeD, List.set_cons_zero, List.set_cons_succ, List.set_nil, endsOf, outD, wipeD])
def S_rule_line : WE := fun δ P => ∃ m r, δ = [.d (ruleD r)] ∧ m ≤ 5 ∧ RuleOk m r ∧ P (.d (.str (SX.S (ruleW r ++ [10])))) δ
def S_read_rule : WE := fun δ P => ∃ w : List Nat, δ = [.d (.str (SX.S w))] ∧ w.length ≤ 900 ∧ P (.d (readR w)) δ
def S_read_rulesX : WEX := fun δ P PX => ∃ d, δ = [.d d] ∧ TxOk d ∧ ((∃ t, parsRD d = some t ∧ P (.d t) δ) ∨ (parsRD d = none ∧ PX "NoText"))
def S_rules_textX : WEX := fun δ P PX => ∃ a b, δ = [.d a, .d b] ∧ odd a = true ∧ odd b = true ∧ ((∃ m rl, a = .int m ∧ b = rulesD rl ∧ 1 ≤ m ∧ m ≤ 5 ∧ RulesOk m rl ∧ P (.d (.str (SX.S (textR m rl)))) δ) ∨ (manyB a = false ∧ PX "NoMany") ∨ (∃ m, a = .int m ∧ 1 ≤ m ∧ m ≤ 5 ∧ rulesB m b = false ∧ PX "NoRules"))
def S_Sheet_initN : WIn := fun o ds P => ∃ m rl, ds = [.int m, rulesD rl] ∧ o.fs = [] ∧ o.n = "Sheet" ∧ 1 ≤ m ∧ m ≤ 5 ∧ RulesOk m rl ∧ ∀ o', o'.n = ("Sheet" : Str) → o'.fs.lookup ("columns" : Str) = some (.d (.int m)) → o'.fs.lookup ("held" : Str) = some (.d (.tuple [])) → o'.fs.lookup ("NAME" : Str) = none → P o'
abbrev S_i_SheetN : WIn := S_Sheet_initN
def wb_rule_line : WS := (wThen (wAsg (wV 0) (bTup 2 (bCons (bN 1) (bCons (bN 2) bNil))))
      (wRet (w2 rCatSD (wJoinT "" (wLc (wSeq (wV 1)) (bN 3) wYes (wJoin [(wFmt (wV 3)), (wC (.str " "))]) [3])) (wJoin [(wC (.str "> ")), (wFmt (wV 2)), (wC (.str "
"))]))))
def wb_read_rule : WS := (wThen (wSet 1 (wSplit (wV 0) " "))
      (wThen (wIfS (wOrT (wB (w2 rLtD (wCB rLenD (wCons (wV 1) wNil)) (wC (.int 2)))) (wB (w2 rNeT (w2 rIxD (wV 1) (wNeg (wC (.int 2)))) (wC (.str ">"))))) (wRet (wC .none)) wNext)
      (wRet (wTup (wCons (wCB rTupleD (wCons (wLc (wSeq (wSlice (wV 1) wNo (wPart (wNeg (wC (.int 2)))))) (bN 2) wYes (wCall S_read_number (wCons (wV 2) wNil)) [2]) wNil)) (wCons (wCall S_read_number (wCons (w2 rIxD (wV 1) (wNeg (wC (.int 1)))) wNil)) wNil))))))
def wb_read_rulesX : WSX := (wThenX (wSetX 1 (wCallX S_text_linesX (uPu (wCons (wV 0) wNil))))
      (wThenX (wSetX 2 (wCallX S_read_manyX (uPu (wCons (w2 rIxD (wV 1) (wC (.int 0))) wNil))))
      (wThenX (sPu (wSet 3 (wCB rTupleD (wCons (wLc (wSeq (wSlice (wV 1) (wPart (wC (.int 1))) wNo)) (bN 4) wYes (wCall S_read_rule (wCons (wV 4) wNil)) [4]) wNil))))
      (wThenX (wIfX (wNotT (wTru (wCallX0 S_are_rulesX (wCons (wV 2) (wCons (wV 3) wNil))))) (wRaise "NoText") (sPu wNext))
      (sPu (wRet (wTup (wCons (wV 2) (wCons (wV 3) wNil)))))))))
def wb_rules_textX : WSX := (wThenX (wDropX (wCallX S_need_manyX (uPu (wCons (wV 0) wNil))))
      (wThenX (wDropX (wCallX S_need_rulesX (uPu (wCons (wV 0) (wCons (wV 1) wNil)))))
      (sPu (wRet (w2 rCatSD (wCall S_columns_line (wCons (wV 0) wNil)) (wJoinT "" (wLc (wSeq (wV 1)) (bN 2) wYes (wCall S_rule_line (wCons (wV 2) wNil)) [2])))))))
def wb_Sheet_initN : WS := (wThen (wDrop (wCallX0 S_need_manyX (wCons (wV 1) wNil)))
      (wThen (wDrop (wCallX0 S_need_rulesX (wCons (wV 1) (wCons (wV 2) wNil))))
      (wThen (wPutF NS 0 "columns" (wV 1))
      (wThen (wPutF NS 0 "kept_rules" (wV 2))
      (wThen (wPutF NS 0 "held" (wTup wNil))
      (wPutF NS 0 "past" (wLst wNil)))))))
theorem join_pre (S : List Nat) (q : List Nat) (qs : List (List Nat)) : ∀ ps : List (List Nat), joinL S (ps ++ q :: qs) = (ps.map (· ++ S)).flatten ++ joinL S (q :: qs)
  | [] => rfl
  | [p] => by simp [joinL]
  | p :: p2 :: ps => by
    have ih := join_pre S q qs (p2 :: ps)
    show p ++ (S ++ joinL S ((p2 :: ps) ++ q :: qs)) = _
    rw [ih]
    simp
theorem ruleW_eq (r : Rule) : ruleW r = (r.1.map fun c => numL c.toNat ++ [32]).flatten ++ ([62, 32] ++ numL r.2.toNat) := by
  unfold ruleW
  rw [join_pre, List.map_map]
  show _ ++ joinL [32] [[62], numL r.2.toNat] = _
  simp [joinL]
  rfl
theorem ruleW_len {m : Int} {r : Rule} (m5 : m ≤ 5) (h : RuleOk m r) : (ruleW r).length ≤ 12 + 5 * r.1.length ∧ r.1.length ≤ 5 := by
  have hn : ∀ c : Int, 0 ≤ c → c < m → (numL c.toNat).length ≤ 4 := fun c h0 h1 => numL_5 h0 (by omega)
  have h2 := sumL (k := 5) (ys := r.1.map fun c => numL c.toNat ++ [32]) fun y hy => by
    obtain ⟨c, hc, rfl⟩ := List.mem_map.mp hy
    have := hn c (h.cols.inn c hc).1 (h.cols.inn c hc).2
    rw [List.length_append, List.length_singleton]; omega
  rw [List.length_map] at h2
  have h3 := hn r.2 h.lo h.hi
  refine ⟨?_, h.cols.few⟩
  rw [ruleW_eq, List.length_append, List.length_flatten, List.length_append]
  show _ + (2 + _) ≤ _
  omega
theorem hS_rule_line : ∀ δ P, S_rule_line δ P → ArgOk 1 δ ∧ wb_rule_line (endsOf δ P) (δ ++ List.replicate (4 - 1) Sl.un) := by
  rintro δ P ⟨m, r, rfl, m5, ro, h⟩
  refine ⟨argD [ruleD r], ?_⟩
  unfold wb_rule_line
  have z3 : sizeLine ≥ 100000 := by rw [sizeLine_eq]; decide
  obtain ⟨g, t⟩ := r
  have g5 := ro.cols.few
  have hn : ∀ c : Int, 0 ≤ c → c < m → (numL c.toNat).length ≤ 4 := fun c h0 h1 => numL_5 h0 (by omega)
  refine seqT fun T hT => ?_
  unfold ruleD iT
  walk_at "ds"
  refine ⟨rfl, ?_⟩
  walk_at "ds"
  rw [hT]
  walk_at "ds"
  refine ⟨⟨by rw [List.length_map]; show g.length ≤ 100000; have : g.length ≤ 5 := g5; omega, rfl⟩, ?_⟩
  refine go_mapT PyData.int (fun c => PyData.str (SX.S (numL c.toNat ++ [32]))) g (fun c hc C C' h2 => ?_) ?_
  · have c1 := (ro.cols.inn c hc).1
    have c2 := (ro.cols.inn c hc).2
    have hl := hn c c1 c2
    walk_at "ds"
    refine ifT rfl ?_
    have e1 : Str.empty ++ (toString c : Str) ++ (" " : Str) = SX.S (numL c.toNat ++ [32]) := by
      rw [str_nat c1, lit_sp, (show Str.empty = SX.S [] from rfl), SX.S_cat, SX.S_cat]; rfl
    have e2 : Str.empty ++ (toString c : Str) = SX.S (numL c.toNat) := by
      rw [str_nat c1, (show Str.empty = SX.S [] from rfl), SX.S_cat]; rfl
    refine ⟨small_log c1 (by omega), ?_, ?_, rfl, ?_⟩
    · show (Str.empty ++ (toString c : Str)).length ≤ _
      rw [e2, sLen]; omega
    · show (Str.empty ++ (toString c : Str) ++ (" " : Str)).length ≤ _
      rw [e1, sLen, List.length_append, List.length_singleton]; omega
    · show C (.str (Str.empty ++ (toString c : Str) ++ (" " : Str))) _
      rw [e1]; exact h2
  have t0 : 0 ≤ t := ro.lo
  have t1 : t < m := ro.hi
  have ht := hn t t0 t1
  walk_at "ds"
  have lens : ((g.map fun c => numL c.toNat ++ [32]).map List.length).sum ≤ 25 := by
    have h2 := sumL (k := 5) (ys := g.map fun c => numL c.toNat ++ [32]) fun y hy => by
      obtain ⟨c, hc, rfl⟩ := List.mem_map.mp hy
      have := hn c (ro.cols.inn c hc).1 (ro.cols.inn c hc).2
      rw [List.length_append, List.length_singleton]; omega
    rw [List.length_map] at h2
    have g5 : g.length ≤ 5 := g5
    omega
  have e : (g.map fun c => PyData.str (SX.S (numL c.toNat ++ [32]))) = strL (g.map fun c => numL c.toNat ++ [32]) := by unfold strL; rw [List.map_map]; rfl
  have e1 : Str.empty ++ ("> " : Str) = SX.S [62, 32] := by decide +kernel
  have e2 : Str.empty ++ ("> " : Str) ++ (toString t : Str) = SX.S ([62, 32] ++ numL t.toNat) := by rw [e1, str_nat t0, SX.S_cat]
  have e3 : Str.empty ++ ("> " : Str) ++ (toString t : Str) ++ ("\n" : Str) = SX.S ([62, 32] ++ numL t.toNat ++ [10]) := by rw [e2, lit_nl, SX.S_cat]
  have l1 : ([62, 32] ++ numL t.toNat).length ≤ 6 := by rw [List.length_append]; show 2 + _ ≤ 6; omega
  refine ⟨(g.map fun c => numL c.toNat ++ [32]).map SX.S, by rw [strL_map, ← e], ?_, by show (Str.empty ++ ("> " : Str)).length ≤ _; rw [e1, sLen]; show 2 ≤ _; omega, ?_⟩
  · rw [lit_no]
    exact joinZ (by rw [List.length_nil, Nat.mul_zero]; omega)
  refine ⟨small_log t0 (by omega), ?_, ?_, ?_⟩
  · show (Str.empty ++ ("> " : Str) ++ (toString t : Str)).length ≤ _
    rw [e2, sLen]; omega
  · show (Str.empty ++ ("> " : Str) ++ (toString t : Str) ++ ("\n" : Str)).length ≤ _
    rw [e3, sLen, List.length_append, List.length_singleton]; omega
  show rCatSD _ (.str (Str.empty ++ ("> " : Str) ++ (toString t : Str) ++ ("\n" : Str))) _
  rw [e3, lit_no, SX.join_S, joinL_nil]
  refine catS ?_ ?_
  · rw [List.length_flatten, List.length_append, List.length_singleton]; omega
  walk_at "ds"
  have ef : (g.map fun c => numL c.toNat ++ [32]).flatten ++ 62 :: 32 :: (numL t.toNat ++ [10]) = ruleW (g, t) ++ [10] := by
    rw [ruleW_eq]; simp
  rw [ef]
  exact h
theorem atI_back1 (xs : List PyData) (a t : PyData) : atI (xs ++ [a, t]) (-1) = some t := by
  unfold atI ixN
  rw [if_neg (by decide), List.length_append, if_pos (by simp only [List.length_cons, List.length_nil]; omega)]
  show (xs ++ [a, t])[(-1 + ((xs.length + 2 : Nat) : Int)).toNat]? = _
  have : (-1 + ((xs.length + 2 : Nat) : Int)).toNat = xs.length + 1 := by omega
  rw [this, List.getElem?_append_right (by omega)]
  have : xs.length + 1 - xs.length = 1 := by omega
  rw [this]; rfl
theorem atI_back2 (xs : List PyData) (a t : PyData) : atI (xs ++ [a, t]) (-2) = some a := by
  unfold atI ixN
  rw [if_neg (by decide), List.length_append, if_pos (by simp only [List.length_cons, List.length_nil]; omega)]
  show (xs ++ [a, t])[(-2 + ((xs.length + 2 : Nat) : Int)).toNat]? = _
  have : (-2 + ((xs.length + 2 : Nat) : Int)).toNat = xs.length := by omega
  rw [this, List.getElem?_append_right (by omega), Nat.sub_self]; rfl
theorem cut_back2 (xs : List PyData) (a t : PyData) : Dw.cutD (xs ++ [a, t]) none (some (-2)) = xs := by
  unfold Dw.cutD
  rw [HT.sIx_none, List.drop_zero, Nat.sub_zero]
  have : HT.sIx (xs ++ [a, t]).length (xs ++ [a, t]).length (some (-2)) = xs.length := by
    show (if (-2 : Int) < 0 then (-2 + (((xs ++ [a, t]).length : Nat) : Int)).toNat else min (-2 : Int).toNat (xs ++ [a, t]).length) = _
    rw [if_pos (by decide), List.length_append]
    simp only [List.length_cons, List.length_nil]; omega
  rw [this, List.take_left]
theorem hS_read_rule : ∀ δ P, S_read_rule δ P → ArgOk 1 δ ∧ wb_read_rule (endsOf δ P) (δ ++ List.replicate (3 - 1) Sl.un) := by
  rintro δ P ⟨w, rfl, hw, h⟩
  refine ⟨argD [.str (SX.S w)], ?_⟩
  unfold wb_read_rule
  have z3 : sizeLine ≥ 100000 := by rw [sizeLine_eq]; decide
  refine seqT fun T hT => ?_
  walk_at "ds"
  refine ⟨SX.S w, rfl, by rw [sLen]; omega, ?_⟩
  rw [lit_sp, splitS (by decide)]
  have ew : spl [32] 0 [] w = wordsOf w := rfl
  rw [ew, hT]
  have wl : ∀ y ∈ wordsOf w, y.length ≤ w.length := fun y hy => word_len hy
  have wn := words_len (l := w)
  have hsl : (strL (wordsOf w)).length = (wordsOf w).length := by unfold strL; rw [List.length_map]
  refine seqT fun T hT => ?_
  walk_at "ds"
  refine ⟨rfl, ?_⟩
  rw [hsl]
  by_cases q2 : 2 ≤ (wordsOf w).length
  case neg =>
    have e : readR w = .none := by unfold readR; rw [readO_few (by omega)]; rfl
    rw [e] at h
    exact ifT (decide_eq_true (by omega)) (ifT rfl h)
  refine ifF (decide_eq_false (by omega)) ?_
  obtain ⟨g, a, t, ex⟩ := words_two q2
  have er : readR w = ruleO (if a = [62] then some (g.map readN, readN t) else none) := by unfold readR; rw [readO_of ex]
  rw [er] at h
  rw [ex] at wl wn ⊢
  have esx : strL (g ++ [a, t]) = strL g ++ [.str (SX.S a), .str (SX.S t)] := by unfold strL; rw [List.map_append]; rfl
  have ga : atI (strL (g ++ [a, t])) (-2) = some (.str (SX.S a)) := by
    rw [esx]
    exact atI_back2 _ _ _
  have gt : atI (strL (g ++ [a, t])) (-1) = some (.str (SX.S t)) := by
    rw [esx]
    exact atI_back1 _ _ _
  have gc : Dw.cutD (strL (g ++ [a, t])) none (some (-2)) = strL g := by
    rw [esx]
    exact cut_back2 _ _ _
  rw [List.length_append] at wn
  refine ⟨rfl, lstix ga ?_⟩
  walk_at "ds"
  have egt : (">" : Str) = SX.S [62] := by decide +kernel
  rw [egt]
  refine ne_ok (k := decide (a = [62])) rfl (sEq _ _) ?_
  walk_at "ds"
  by_cases qa : a = [62]
  case neg =>
    rw [if_neg qa] at h
    exact ifT (by rw [decide_eq_false qa]; rfl) h
  rw [if_pos qa] at h
  refine ifF (by rw [decide_eq_true qa]; rfl) ?_
  rw [hT]
  walk_at "ds"
  rw [gc]
  refine ⟨rfl, ⟨by unfold strL; rw [List.length_map]; omega, rfl⟩, ?_⟩
  unfold strL
  refine go_mapT (fun l => PyData.str (SX.S l)) (fun l => .int (readN l)) g (fun c hc C C' h2 => ?_) ?_
  · walk_at "ds"
    refine ifT rfl ?_
    exact ⟨rfl, c, rfl, by have := wl c (by simp [hc]); omega, rfl, h2⟩
  walk_at "ds"
  refine ⟨rfl, lstix gt ?_⟩
  walk_at "ds"
  refine ⟨rfl, t, rfl, by have := wl t (by simp); omega, ?_⟩
  walk_at "ds"
  refine ⟨⟨rfl, by show 2 ≤ 1000; decide⟩, ?_⟩
  have eg : (g.map fun l => PyData.int (readN l)) = (g.map readN).map PyData.int := by rw [List.map_map]; rfl
  rw [eg]
  exact h
theorem hS_read_rulesX : ∀ δ P PX, S_read_rulesX δ P PX → ArgOk 1 δ ∧ wb_read_rulesX (endsOf δ P) PX (δ ++ List.replicate (5 - 1) Sl.un) := by
  rintro δ P PX ⟨d, rfl, ht, h⟩
  refine ⟨argD [d], ?_⟩
  unfold wb_read_rulesX
  walk_at "ds"
  refine ⟨rfl, d, rfl, ht, ?_⟩
  by_cases hg : ∃ a, d = .str (SX.S a) ∧ a.drop (a.length - 1) = [10]
  case neg =>
    refine .inr ⟨fun a e z => hg ⟨a, e, z⟩, ?_⟩
    rcases h with ⟨t, e, _⟩ | ⟨_, h⟩
    · exfalso
      cases d with
      | str z =>
        refine hg ⟨z.cps.toList, by rw [SX.S_tl], ?_⟩
        have e : parsR z.cps.toList = some t := e
        by_cases q : z.cps.toList.drop (z.cps.toList.length - 1) = [10]
        · exact q
        · rw [parsR_none (headA_no q)] at e; cases e
      | _ => cases e
    · exact h
  obtain ⟨a, rfl, hd⟩ := hg
  have hl := ht.2 _ rfl
  rw [sLen] at hl
  refine .inl ⟨a, rfl, hd, ?_⟩
  obtain ⟨l, ls, el⟩ : ∃ l ls, linesOf a = l :: ls := by
    cases q : linesOf a with
    | nil => exact absurd q lines_ne
    | cons l ls => exact ⟨l, ls, rfl⟩
  have ll : ∀ y ∈ linesOf a, y.length ≤ a.length := fun y hy => line_len hy
  have ln := lines_len (a := a)
  rw [el] at ll ln ⊢
  unfold strL
  rw [List.map_cons]
  walk_at "ds"
  refine ⟨rfl, lstix (z := .str (SX.S l)) ?_ ?_⟩
  · exact atI_of (by decide) rfl
  walk_at "ds"
  refine ⟨rfl, l, rfl, by have := ll l (by simp); omega, ?_⟩
  cases q : headW (wordsOf l) with
  | none =>
    have ep : parsRD (.str (SX.S a)) = none := parsR_none (by rw [headA_cons hd el, q]; rfl)
    rw [ep] at h
    refine .inr ⟨rfl, ?_⟩
    rcases h with ⟨t, e, _⟩ | ⟨_, h⟩
    · cases e
    · exact h
  | some m =>
    have ep : parsRD (.str (SX.S a)) = if rulesB m (rulesA ls) = true then some (pairA m ls) else none := parsR_some (by rw [headA_cons hd el, q]; rfl)
    rw [ep] at h
    obtain ⟨m1, m5⟩ := headW_rng q
    refine .inl ⟨m, rfl, ?_⟩
    walk_at "ds"
    have lls : ls.length ≤ 900 := by rw [List.length_cons] at ln; omega
    have lle : ∀ y ∈ ls, y.length ≤ 900 := fun y hy => by have := ll y (List.mem_cons_of_mem _ hy); omega
    have ec : Dw.cutD (PyData.str (SX.S l) :: ls.map fun l => PyData.str (SX.S l)) (some 1) none = ls.map fun l => PyData.str (SX.S l) := by
      rw [show (some (1 : Int)) = some ((1 : Nat) : Int) from rfl, cutL_from]; rfl
    rw [ec]
    refine ⟨rfl, ⟨by rw [List.length_map]; omega, rfl⟩, ?_⟩
    refine go_mapT (fun l => PyData.str (SX.S l)) readR ls (fun c hc C C' h2 => ?_) ?_
    · walk_at "ds"
      refine ifT rfl ?_
      exact ⟨rfl, c, rfl, lle c hc, rfl, h2⟩
    walk_at "ds"
    refine ⟨rfl, m, rulesA ls, rfl, m1, m5, odd_rulesA (by omega) (fun y hy => by have := lle y hy; omega), ?_⟩
    walk_at "ds"
    cases qt : rulesB m (rulesA ls) with
    | true =>
      rw [qt] at h
      refine ifF rfl ?_
      walk_at "ds"
      refine ⟨⟨rfl, by show 2 ≤ 1000; decide⟩, ?_⟩
      rcases h with ⟨t, e, h⟩ | ⟨e, _⟩
      · cases e; exact h
      · cases e
    | false =>
      rw [qt] at h
      refine ifT rfl ?_
      rcases h with ⟨t, e, _⟩ | ⟨_, h⟩
      · cases e
      · exact h
theorem hS_rules_textX : ∀ δ P PX, S_rules_textX δ P PX → ArgOk 2 δ ∧ wb_rules_textX (endsOf δ P) PX (δ ++ List.replicate (3 - 2) Sl.un) := by
  rintro δ P PX ⟨a, b, rfl, oa, ob, h⟩
  refine ⟨argD [a, b], ?_⟩
  unfold wb_rules_textX
  walk_at "ds"
  refine ⟨rfl, a, rfl, oa, ?_⟩
  rcases h with ⟨m, rl, rfl, rfl, m1, m5, hr, h⟩ | ⟨hm, h⟩ | ⟨m, rfl, m1, m5, hr, h⟩
  case inr.inl =>
    rw [hm]
    exact h
  case inr.inr =>
    rw [many_int m1 m5]
    refine (if_pos rfl).mpr ?_
    walk_at "ds"
    refine ⟨rfl, m, b, rfl, m1, m5, ob, ?_⟩
    rw [hr]
    exact h
  rw [many_int m1 m5]
  refine (if_pos rfl).mpr ?_
  walk_at "ds"
  refine ⟨rfl, m, rulesD rl, rfl, m1, m5, ob, ?_⟩
  rw [rules_okB hr]
  refine (if_pos rfl).mpr ?_
  have few := hr.few
  unfold rulesD
  walk_at "ds"
  refine ⟨rfl, m, rfl, m1, m5, ?_⟩
  walk_at "ds"
  refine ⟨⟨by rw [List.length_map]; omega, rfl⟩, ?_⟩
  have hlen : ∀ r ∈ rl, (ruleW r).length ≤ 37 := fun r hr' => by have := ruleW_len m5 (hr.all r hr'); omega
  refine go_mapT ruleD (fun r => PyData.str (SX.S (ruleW r ++ [10]))) rl (fun r hr' C C' h2 => ?_) ?_
  · walk_at "ds"
    refine ifT rfl ?_
    exact ⟨rfl, m, r, rfl, m5, hr.all r hr', rfl, h2⟩
  walk_at "ds"
  have e : (rl.map fun r => PyData.str (SX.S (ruleW r ++ [10]))) = strL (rl.map fun r => ruleW r ++ [10]) := by unfold strL; rw [List.map_map]; rfl
  have lens : ((rl.map fun r => ruleW r ++ [10]).map List.length).sum ≤ 304 := by
    have h2 := sumL (k := 38) (ys := rl.map fun r => ruleW r ++ [10]) fun y hy => by
      obtain ⟨r, hr', rfl⟩ := List.mem_map.mp hy
      have := hlen r hr'
      rw [List.length_append, List.length_singleton]; omega
    rw [List.length_map] at h2
    omega
  refine ⟨(rl.map fun r => ruleW r ++ [10]).map SX.S, by rw [strL_map, ← e], ?_, ?_⟩
  · rw [lit_no]
    exact joinZ (by rw [List.length_nil, Nat.mul_zero]; omega)
  rw [lit_no, SX.join_S, joinL_nil]
  refine catS ?_ ?_
  · have hc : colW.length = 7 := by decide +kernel
    have hn := numL_5 (i := m) (by omega) (by omega)
    rw [List.length_flatten]
    unfold headL
    rw [List.length_append, List.length_append, List.length_cons, List.length_singleton, hc]
    omega
  have et : headL m ++ [10] ++ (rl.map fun r => ruleW r ++ [10]).flatten = textR m rl := by
    unfold textR
    rw [← join_ends, List.map_cons, List.flatten_cons, List.map_map]; rfl
  rw [et]
  exact h
theorem hS_Sheet_initN : ∀ o ds P, S_Sheet_initN o ds P → ds.length = 2 ∧ wb_Sheet_initN (endsI o P) (.s o :: ds.map Sl.d ++ List.replicate (3 - 3) Sl.un) := by
  rintro ⟨n, a, dx, fs⟩ ds P ⟨m, rl, rfl, hf, hn, m1, m5, hr, h⟩
  generalize ed : rulesD rl = d
  have hf : fs = [] := hf
  subst hf
  have hn : n = "Sheet" := hn
  have hN : n ∈ NS := by rw [hn]; exact List.mem_cons_self
  refine ⟨rfl, ?_⟩
  unfold wb_Sheet_initN
  walk_at "ds"
  refine ⟨rfl, .int m, rfl, rfl, ?_⟩
  rw [many_int m1 m5]
  refine (if_pos rfl).mpr ?_
  walk_at "ds"
  refine ⟨rfl, m, d, rfl, m1, m5, by rw [← ed]; exact odd_rules hr, ?_⟩
  rw [← ed, rules_okB hr]
  refine (if_pos rfl).mpr ?_
  rw [ed]
  walk_at "ds"
  have n1 : ¬ (("kept_rules" : Str) = "columns") := by decide +kernel
  have n2 : ¬ (("held" : Str) = "columns") := by decide +kernel
  have n3 : ¬ (("held" : Str) = "kept_rules") := by decide +kernel
  have n4 : ¬ (("past" : Str) = "columns") := by decide +kernel
  have n5 : ¬ (("past" : Str) = "kept_rules") := by decide +kernel
  have n6 : ¬ (("past" : Str) = "held") := by decide +kernel
  have n7 : ¬ (("NAME" : Str) = "columns") := by decide +kernel
  have n8 : ¬ (("NAME" : Str) = "kept_rules") := by decide +kernel
  have n9 : ¬ (("NAME" : Str) = "held") := by decide +kernel
  have n10 : ¬ (("NAME" : Str) = "past") := by decide +kernel
  have l1 := putV_len (f := "columns") (w := .d (.int m)) (fs := [])
  have l2 := putV_len (f := "kept_rules") (w := .d d) (fs := putV "columns" (.d (.int m)) [])
  have l3 := putV_len (f := "held") (w := .d (.tuple [])) (fs := putV "kept_rules" (.d d) (putV "columns" (.d (.int m)) []))
  have l0 : ([] : List (Str × Fv)).length = 0 := rfl
  refine putF_v (i := 0) (o := ⟨n, a, dx, []⟩) (x := .int m) rfl hN (by show 0 < 1000; decide) (fun p xs z => by cases z) (fun R hr => by exact hr) ?_
  dsimp only
  refine putF_v (i := 0) (o := ⟨n, a, dx, putV "columns" (.d (.int m)) []⟩) (x := d) rfl hN (by show (putV _ _ _).length < 1000; omega) (fun p xs z => by dsimp only at z; rw [lk_putV, if_neg n1] at z; cases z) (fun R hr => by exact hr) ?_
  dsimp only
  refine putF_v (i := 0) (o := ⟨n, a, dx, putV "kept_rules" (.d d) (putV "columns" (.d (.int m)) [])⟩) (x := .tuple []) rfl hN (by show (putV _ _ _).length < 1000; omega) (fun p xs z => by dsimp only at z; rw [lk_putV, if_neg n3, lk_putV, if_neg n2] at z; cases z) (fun R hr => by exact ⟨⟨rfl, by decide⟩, hr⟩) ?_
  dsimp only
  refine putF_w (i := 0) (o := ⟨n, a, dx, putV "held" (.d (.tuple [])) (putV "kept_rules" (.d d) (putV "columns" (.d (.int m)) []))⟩) rfl hN (by show (putV _ _ _).length < 1000; omega) (fun p xs z => by dsimp only at z; rw [lk_putV, if_neg n6, lk_putV, if_neg n5, lk_putV, if_neg n4] at z; cases z) (fun R hr => by exact ⟨⟨rfl, by decide⟩, hr⟩) fun p => ?_
  refine ⟨rfl, ?_⟩
  refine h _ hn ?_ ?_ ?_
  · dsimp only
    rw [lk_putV, if_neg (fun z => n4 z.symm), lk_putV, if_neg (fun z => n2 z.symm), lk_putV, if_neg (fun z => n1 z.symm), lk_putV, if_pos rfl]
  · dsimp only
    rw [lk_putV, if_neg (fun z => n6 z.symm), lk_putV, if_pos rfl]
  · dsimp only
    rw [lk_putV, if_neg n10, lk_putV, if_neg n9, lk_putV, if_neg n8, lk_putV, if_neg n7]
    rfl
end B
namespace B
open PySem PySem.Spec PyProof.Rows L2 Dw TL
local macro_rules | `(tactic| walk_at "ds") => `(tactic| try dsimp only [wSplit, wJoinT, wEndsW, wUpper, wSliceS, wReplC, wSeqS, wTupE, rLenSD, rIntSD, rInSg, rMulSD, rStrID, wCallG, gOwn, gNo, wReprO, wMakeF, wFldDc, wFldDh, wNmD, wPropD, wJoin, wJs, wFmt, wRevT, wCallX0, wCall0, wE0, wNevS, wLmul, wCntL, wCntL1, wIsE, wStrE, wForget, wBrw, wCallL, endL, wRet, wRetN, sPu, wThenX, wIfX, wRetX, wDropX, wSetX, wCallX, wCallP, uPu, wPu, uConsX, wRaise, wDc, wDcT, wDZ, wD1, wGet1, wGet2, wGetT, wThen, wIfS, wIf, wNotT, Dw.wTru, wB, w2, wV, wC, wCons, wNil, wCall, wCallO, wCallO1, endO, wCB, wLc, wSeq, wYes, wNext, wNever, wDrop, wSet, wAsg, wPair, wFor, wTup, wLst, wAndV, wOrV, wNotV, wNeg, wAndT, wOrT, wIsi, wChain, wSlice, wPart, wNo, wZip, wEnum, wRng1, wRng2, wLc2, wApp, wApp1, wPop, wPop1, wExt, wExt1, wSetI, wSetI1, wSetD, wDat, wTupRg, wLstRg, wTupS, wCBX, wCallE, wCallPE, rngL, wIdx, wIdx1, wExtL, wExtL1, wLenM, wNotInM, wGetM, wPutM, wPutM1, wSetK, wTri, wForget, rCatTD, rCatLD, intsR, Option.map_some, bN, bTup, bCons, bNil, as_d, as_l, as_b, noB_d, noB_l, still_d, still_l, still_b, put_d, put_l, tru_bool, tru_tup, tru_lst, isT_tup, isI_int, isB_int, stillA_nil, stillA_cons, map0, map1, map2, map3, len_l, len_t, tup_l, tup_t, lst_l, lst_t, max_i, min_i, List.all_cons, List.all_nil, Bool.and_self, Bool.and_true, Bool.not_true, Bool.not_false, List.getElem?_cons_zero, List.getElem?_cons_succ, List.cons_append, List.nil_append, List.append_nil, List.reduceReplicate, Nat.reduceSub, Nat.sub_self, rI1, rI2, rAddD, rSubD, rMulD, rDivD, rModD, rPowD, rLtD, rLeD, rGtD, rGeD, List.set_cons_zero, List.set_cons_succ, List.set_nil, endsOf, outD, wipeD])
def sayN : List Str := ["NoMany", "NoRules", "NoText"]
def sayU (n : Str) : Str := n
def sayW (n : Str) : Str := "! " ++ n
def headD : PyData → PyData
  | .str z => match headA z.cps.toList with
    | some (m, ls) => .tuple [.int m, .list (strL ls)]
    | none => .none
  | _ => .none
def outP : Option PyData → PyData
  | none => .none
  | some t => t
def S_law_no_many : WE := fun δ P => δ = [] ∧ ∀ ds, ds.length ≤ 100 → (∀ d ∈ ds, odd d = true ∧ manyB d = false) → P (.l ds) δ
def S_law_no_rule : WE := fun δ P => ∃ m, δ = [.d (.int m)] ∧ 1 ≤ m ∧ m ≤ 5 ∧ ∀ ds, ds.length ≤ 100 → (∀ d ∈ ds, odd d = true ∧ ruleB m d = false) → P (.l ds) δ
def S_law_no_rules : WE := fun δ P => ∃ m, δ = [.d (.int m)] ∧ 1 ≤ m ∧ m ≤ 5 ∧ ∀ ds, ds.length ≤ 200 → (∀ d ∈ ds, odd d = true ∧ rulesB m d = false) → P (.l ds) δ
def S_law_lines : WE := fun δ P => ∃ m rl, δ = [.d (rulesD rl)] ∧ m ≤ 5 ∧ RulesOk m rl ∧ P (.l (strL (rl.map ruleW))) δ
def S_law_text : WE := fun δ P => ∃ m rl, δ = [.d (.int m), .d (.list (strL (rl.map ruleW)))] ∧ 1 ≤ m ∧ m ≤ 5 ∧ RulesOk m rl ∧ P (.d (.str (SX.S (textR m rl)))) δ
def S_law_number : WE := fun δ P => ∃ w : List Nat, δ = [.d (.str (SX.S w))] ∧ w.length ≤ 1000 ∧ P (.d (.int (readN w))) δ
def S_law_headed : WE := fun δ P => ∃ d, δ = [.d d] ∧ TxOk d ∧ P (.d (headD d)) δ
def S_law_parsed : WE := fun δ P => ∃ d, δ = [.d d] ∧ TxOk d ∧ P (.d (outP (parsRD d))) δ
def S_law_near : WE := fun δ P => ∃ xs n, ∃ a : List Nat, δ = [.o xs, .d (.str (SX.S a))] ∧ Pen n xs ∧ n ≤ 990000 ∧ 1 ≤ a.length ∧ a.length ≤ 330 ∧ a.all (· < 128) = true ∧ ∀ ys ds, Pen (n + 3) ys → ds.length ≤ 30 → (∀ d ∈ ds, TxOk d) → P (.l ds) [.o ys, .d (.str (SX.S a))]
def wb_law_no_many : WS := (wRet (wLst (wCons (wC .none) (wCons (wC (.bool true)) (wCons (wC (.bool false)) (wCons (wC (.int 0)) (wCons (wC (.int 6)) (wCons (wNeg (wC (.int 1))) (wCons (w2 rPowD (wC (.int 10)) (wC (.int 12))) (wCons (wC (.str "3")) (wCons (wC (.str "")) (wCons (wTup (wCons (wC (.int 3)) wNil)) (wCons (wLst (wCons (wC (.int 3)) wNil)) (wCons wE0 (wCons (wTup wNil) wNil)))))))))))))))
def wb_law_no_rule : WS := (wThen (wSet 1 (wLst (wCons (wC .none) (wCons (wC (.bool true)) (wCons (wC (.int 0)) (wCons (wC (.str "")) (wCons (wTup wNil) (wCons (wLst wNil) (wCons wE0 (wCons (wTup (wCons (wC (.int 0)) wNil)) (wCons (wTup (wCons (wC (.int 0)) (wCons (wC (.int 0)) wNil))) (wCons (wTup (wCons (wTup (wCons (wC (.int 0)) wNil)) (wCons (wC (.int 0)) wNil))) (wCons (wTup (wCons (wTup (wCons (wV 0) wNil)) (wCons (wC (.int 0)) wNil))) (wCons (wTup (wCons (wTup wNil) (wCons (wV 0) wNil))) wNil))))))))))))))
      (wThen (wSet 1 (w2 rCatLD (wV 1) (wLst (wCons (wTup (wCons (wTup wNil) (wCons (wNeg (wC (.int 1))) wNil))) (wCons (wTup (wCons (wTup wNil) (wCons (wC (.bool true)) wNil))) (wCons (wTup (wCons (wTup wNil) (wCons (wC .none) wNil))) (wCons (wTup (wCons (wTup wNil) (wCons (wC (.str "0")) wNil))) (wCons (wTup (wCons (wTup (wCons (wC (.bool true)) wNil)) (wCons (wC (.int 0)) wNil))) (wCons (wTup (wCons (wLst wNil) (wCons (wC (.int 0)) wNil))) (wCons (wLst (wCons (wTup wNil) (wCons (wC (.int 0)) wNil))) wNil))))))))))
      (wRet (w2 rCatLD (wV 1) (wLst (wCons (wTup (wCons (wTup (wCons (wC (.int 0)) (wCons (wC (.int 0)) wNil))) (wCons (wC (.int 1)) wNil))) (wCons (wTup (wCons (wTup (wCons (wNeg (wC (.int 1))) wNil)) (wCons (wC (.int 0)) wNil))) (wCons (wTup (wCons (wTup wNil) (wCons (wC (.int 0)) (wCons (wC (.int 0)) wNil)))) (wCons (wTup (wCons (wTup (wCons (wC .none) wNil)) (wCons (wC (.int 0)) wNil))) (wCons (wTup (wCons (wTup (wCons (wTup (wCons (wC (.int 0)) wNil)) wNil)) (wCons (wC (.int 0)) wNil))) (wCons (wTup (wCons (wC (.int 0)) (wCons (wTup wNil) wNil))) wNil)))))))))))
def wb_law_no_rules : WS := (wThen (wSet 1 (wLst (wCons (wC .none) (wCons (wC (.int 0)) (wCons (wC (.str "")) (wCons (wC (.str "rules")) (wCons (wLst wNil) (wCons wE0 (wCons (wLst (wCons (wTup (wCons (wTup wNil) (wCons (wC (.int 0)) wNil))) wNil)) (wCons (wTup (wCons (wTup wNil) (wCons (wC (.int 0)) wNil))) (wCons (w2 rRepAD (wTup (wCons (wTup (wCons (wTup wNil) (wCons (wC (.int 0)) wNil))) wNil)) (wC (.int 9))) wNil)))))))))))
      (wRet (w2 rCatLD (wV 1) (wLc (wSeq (wCall S_law_no_rule (wCons (wV 0) wNil))) (bN 2) wYes (wTup (wCons (wTup (wCons (wTup wNil) (wCons (wC (.int 0)) wNil))) (wCons (wV 2) wNil))) [2]))))
def wb_law_word (a : Addr) (n : Str) : WS := (wThen (wSetD 1 (wLst (wCons (wIsE a (decide (n = "NoTable")) (wV 0)) (wCons (wIsE a (decide (n = "NoMany")) (wV 0)) (wCons (wIsE a (decide (n = "NoRules")) (wV 0)) wNil)))))
      (wThen (wSetD 1 (w2 rCatLD (wV 1) (wLst (wCons (wIsE a (decide (n = "NoRule")) (wV 0)) (wCons (wIsE a (decide (n = "NoFull")) (wV 0)) (wCons (wIsE a (decide (n = "NoColumns")) (wV 0)) wNil))))))
      (wThen (wSetD 1 (w2 rCatLD (wV 1) (wLst (wCons (wIsE a (decide (n = "NoParts")) (wV 0)) (wCons (wIsE a (decide (n = "NoNumber")) (wV 0)) (wCons (wIsE a (decide (n = "NoText")) (wV 0)) wNil))))))
      (wThen (wSetD 1 (w2 rCatLD (wV 1) (wLst (wCons (wIsE a (decide (n = "NoFilling")) (wV 0)) (wCons (wIsE a (decide (n = "TooMany")) (wV 0)) (wCons (wIsE a (decide (n = "Conflict")) (wV 0)) wNil))))))
      (wThen (wSetD 2 (wLst (wCons (wC (.str "NoTable")) (wCons (wC (.str "NoMany")) (wCons (wC (.str "NoRules")) (wCons (wC (.str "NoRule")) (wCons (wC (.str "NoFull")) (wCons (wC (.str "NoColumns")) (wCons (wC (.str "NoParts")) wNil)))))))))
      (wThen (wSetD 2 (w2 rCatLD (wV 2) (wLst (wCons (wC (.str "NoNumber")) (wCons (wC (.str "NoText")) (wCons (wC (.str "NoFilling")) (wCons (wC (.str "TooMany")) (wCons (wC (.str "Conflict")) wNil))))))))
      (wThen (wIfS (wOrT (wB (w2 rNeT (wCntL 1 (wC (.bool true))) (wC (.int 1)))) (wNotT (wTru (wIsE a true (wV 0))))) (wRet (wC (.str "other"))) wNext)
      (wRet (w2 rIxD (wV 2) (wIdx 1 (wC (.bool true))))))))))))
def wb_law_lines : WS := (wThen (wSet 1 (wLst wNil))
      (wThen (wFor (wSeq (wV 0)) (bTup 2 (bCons (bN 2) (bCons (bN 3) bNil))) (wDrop (wApp 1 (w2 rCatSD (w2 rCatSD (wJoinT "" (wLc (wSeq (wV 2)) (bN 4) wYes (w2 rCatSD (wCB rStrID (wCons (wV 4) wNil)) (wC (.str " "))) [4])) (wC (.str "> "))) (wCB rStrID (wCons (wV 3) wNil))))))
      (wRet (wV 1))))
def wb_law_text : WS := (wRet (wJoinT "" (wLc (wSeq (w2 rCatLD (wLst (wCons (w2 rCatSD (wC (.str "columns ")) (wCB rStrID (wCons (wV 0) wNil))) wNil)) (wV 1))) (bN 2) wYes (w2 rCatSD (wV 2) (wC (.str "
"))) [2])))
def wb_law_number : WS := (wThen (wIfS (wOrT (wNotT (wB (wChain rLtD rLtD (wC (.int 0)) (wCB rLenSD (wCons (wV 0) wNil)) (wC (.int 5))))) (wB (w2 rNeT (wLc (wSeqS (wV 0)) (bN 1) (wB (w2 (rInSg true) (wV 1) (wC (.str "0123456789")))) (wC (.int 1)) [1]) (wLst wNil)))) (wRet (wNeg (wC (.int 1)))) wNext)
      (wRet (wIf (wAndT (wB (w2 rGtD (wCB rLenSD (wCons (wV 0) wNil)) (wC (.int 1)))) (wB (w2 rEqT (w2 rIxSD (wV 0) (wC (.int 0))) (wC (.str "0"))))) (wNeg (wC (.int 1))) (wCB rIntSD (wCons (wV 0) wNil)))))
def wb_law_headed : WS := (wThen (wIfS (wOrT (wNotT (wTru (wIsi isStrA (wV 0)))) (wB (w2 rNeT (wSliceS (wV 0) (wPart (wNeg (wC (.int 1)))) wNo) (wC (.str "
"))))) (wRet (wC .none)) wNext)
      (wThen (wSet 1 (wSplit (wSliceS (wV 0) wNo (wPart (wNeg (wC (.int 1))))) "
"))
      (wThen (wSet 2 (wSplit (w2 rIxD (wV 1) (wC (.int 0))) " "))
      (wThen (wIfS (wOrT (wB (w2 rNeT (wCB rLenD (wCons (wV 2) wNil)) (wC (.int 2)))) (wOrT (wB (w2 rNeT (w2 rIxD (wV 2) (wC (.int 0))) (wC (.str "columns")))) (wB (w2 (rInT true) (w2 rIxD (wV 2) (wC (.int 1))) (wLst (wCons (wC (.str "1")) (wCons (wC (.str "2")) (wCons (wC (.str "3")) (wCons (wC (.str "4")) (wCons (wC (.str "5")) wNil)))))))))) (wRet (wC .none)) wNext)
      (wRet (wTup (wCons (wCB rIntSD (wCons (w2 rIxD (wV 2) (wC (.int 1))) wNil)) (wCons (wSlice (wV 1) (wPart (wC (.int 1))) wNo) wNil))))))))
def wb_law_near : WS := (wThen (wPair 5 6 (wCallO S_law_draw 0 (wCons (wCB rLenSD (wCons (wV 1) wNil)) wNil)) (w2 rIxSD (wC (.str "0123459 
->c")) (wCallO S_law_draw 0 (wCons (wC (.int 12)) wNil))))
      (wThen (wSet 2 (wSplit (wSliceS (wV 1) wNo (wPart (wNeg (wC (.int 1))))) "
"))
      (wThen (wSet 3 (w2 rIxD (wV 2) (wCallO S_law_draw 0 (wCons (wCB rLenD (wCons (wV 2) wNil)) wNil))))
      (wThen (wSet 4 (wLst (wCons (w2 rCatSD (wSliceS (wV 1) wNo (wPart (wV 5))) (wSliceS (wV 1) (wPart (w2 rAddD (wV 5) (wC (.int 1)))) wNo)) (wCons (w2 rCatSD (w2 rCatSD (wSliceS (wV 1) wNo (wPart (wV 5))) (wV 6)) (wSliceS (wV 1) (wPart (wV 5)) wNo)) wNil))))
      (wThen (wSet 4 (w2 rCatLD (wV 4) (wLst (wCons (w2 rCatSD (w2 rCatSD (wSliceS (wV 1) wNo (wPart (wV 5))) (wV 6)) (wSliceS (wV 1) (wPart (w2 rAddD (wV 5) (wC (.int 1)))) wNo)) (wCons (wSliceS (wV 1) wNo (wPart (wNeg (wC (.int 1))))) (wCons (w2 rCatSD (wV 1) (wC (.str "
"))) (wCons (w2 rCatSD (w2 rCatSD (wV 1) (wV 3)) (wC (.str "
"))) wNil)))))))
      (wThen (wSet 4 (w2 rCatLD (wV 4) (wLst (wCons (w2 rCatSD (wC (.str " ")) (wV 1)) (wCons (wUpper (wV 1)) (wCons (w2 rCatSD (wV 1) (wC (.str " "))) (wCons (wReplC (wV 1) " " "  ") (wCons (wTup (wCons (wV 1) wNil)) (wCons (wLst (wCons (wV 1) wNil)) wNil)))))))))
      (wThen (wSet 4 (w2 rCatLD (wV 4) (wLst (wCons (w2 rCatSD (wJoinT "
" (w2 rCatLD (wSlice (wV 2) (wPart (wC (.int 1))) wNo) (wSlice (wV 2) wNo (wPart (wC (.int 1)))))) (wC (.str "
"))) (wCons (wReplC (wV 1) " " " 0") wNil)))))
      (wThen (wSet 4 (w2 rCatLD (wV 4) (wLst (wCons (wReplC (wV 1) "columns " "columns 0") (wCons (wSliceS (wV 1) (wPart (w2 rAddD (wCB rLenSD (wCons (w2 rIxD (wV 2) (wC (.int 0))) wNil)) (wC (.int 1)))) wNo) (wCons (wC .none) (wCons (wC (.int 0)) (wCons (wC (.bool true)) wNil))))))))
      (wRet (w2 rCatLD (wV 4) (wLst (wCons (wC (.str "")) (wCons (wC (.str "
")) (wCons (wC (.str "columns")) (wCons (wC (.str "columns 3")) (wCons (wC (.str "columns 0
")) (wCons (wC (.str "columns 6
")) (wCons wE0 wNil))))))))))))))))))
local macro_rules | `(tactic| walk_at "tk") => `(tactic| repeat first | refine ⟨rfl, ?_⟩ | refine ⟨⟨rfl, of_decide_eq_true rfl⟩, ?_⟩ | refine ⟨⟨by decide, by decide, by decide⟩, ?_⟩ | refine ⟨⟨by simp, by decide, by decide, of_decide_eq_true rfl⟩, ?_⟩ | refine ⟨_, rfl, ?_⟩ | refine ⟨of_decide_eq_true rfl, ?_⟩ | refine ⟨by (simp only [List.length_append, List.length_cons, List.length_nil, List.length_map]; omega), ?_⟩)
theorem hS_law_no_many : ∀ δ P, S_law_no_many δ P → ArgOk 0 δ ∧ wb_law_no_many (endsOf δ P) (δ ++ List.replicate (0 - 0) Sl.un) := by
  rintro δ P ⟨rfl, h⟩
  refine ⟨argD [], ?_⟩
  unfold wb_law_no_many
  walk_at "ds"
  walk_at "tk"
  exact h _ (by decide) (by decide +kernel)
theorem hS_law_no_rule : ∀ δ P, S_law_no_rule δ P → ArgOk 1 δ ∧ wb_law_no_rule (endsOf δ P) (δ ++ List.replicate (2 - 1) Sl.un) := by
  rintro δ P ⟨m, rfl, m1, m5, h⟩
  refine ⟨argD [.int m], ?_⟩
  unfold wb_law_no_rule
  walk_at "ds"
  walk_at "tk"
  refine h _ (of_decide_eq_true rfl) ?_
  have : m = 1 ∨ m = 2 ∨ m = 3 ∨ m = 4 ∨ m = 5 := by omega
  rcases this with rfl | rfl | rfl | rfl | rfl <;> decide +kernel
theorem hS_law_no_rules : ∀ δ P, S_law_no_rules δ P → ArgOk 1 δ ∧ wb_law_no_rules (endsOf δ P) (δ ++ List.replicate (3 - 1) Sl.un) := by
  rintro δ P ⟨m, rfl, m1, m5, h⟩
  refine ⟨argD [.int m], ?_⟩
  unfold wb_law_no_rules
  refine seqT fun T hT => ?_
  walk_at "ds"
  walk_at "tk"
  subst hT
  walk_at "ds"
  refine ⟨rfl, m, rfl, m1, m5, fun ds hl hd => ?_⟩
  walk_at "ds"
  refine ⟨⟨by omega, rfl⟩, ?_⟩
  refine go_mapN (fun d => .tuple [.tuple [.tuple [], .int 0], d]) ds (fun x hx C C' h2 => ?_) ?_
  · walk_at "ds"
    refine ifT rfl ?_
    walk_at "tk"
    exact h2
  walk_at "ds"
  walk_at "tk"
  refine h _ ?_ ?_
  · simp only [List.length_append, List.length_cons, List.length_nil, List.length_map]; omega
  · intro d hd1
    have hd2 := List.mem_append.mp hd1
    clear hd1
    rcases hd2 with hd1 | hd1
    · revert d hd1
      have : m = 1 ∨ m = 2 ∨ m = 3 ∨ m = 4 ∨ m = 5 := by omega
      clear h hd
      rcases this with rfl | rfl | rfl | rfl | rfl <;> decide +kernel
    · obtain ⟨x, hx, rfl⟩ := List.mem_map.mp hd1
      obtain ⟨ox, rx⟩ := hd x hx
      refine ⟨?_, ?_⟩
      · refine odd_tup (of_decide_eq_true rfl) fun y hy => ?_
        rcases List.mem_cons.mp hy with rfl | hy
        · rfl
        · rw [List.mem_singleton.mp hy]; exact ox
      · show (decide ((2 : Nat) ≤ 8) && (ruleB m _ && (ruleB m x && true))) = false
        rw [rx, Bool.false_and, Bool.and_false, Bool.and_false]
theorem hS_law_word : ∀ a n, n ∈ sayN → wb_law_word a n (endsOf [.d (adD a)] fun r _ => r = .d (.str (sayU n))) ([.d (adD a)] ++ List.replicate (3 - 1) Sl.un) := by
  intro a n hn
  have : n = "NoMany" ∨ n = "NoRules" ∨ n = "NoText" := by simpa [sayN] using hn
  unfold wb_law_word
  rcases this with rfl | rfl | rfl
  all_goals
    walk_at "ds"
    walk_at "tk"
    first | exact (Eq.refl (Rv.d (PyData.str "NoMany"))) | exact (Eq.refl (Rv.d (PyData.str "NoRules"))) | exact (Eq.refl (Rv.d (PyData.str "NoText")))
theorem textR_len {m : Int} {rl : List Rule} (m1 : 1 ≤ m) (m5 : m ≤ 5) (hr : RulesOk m rl) : (textR m rl).length ≤ 330 := by
  have few := hr.few
  have h1 := joinL_len [10] (headL m :: rl.map ruleW)
  have h2 := sumL (k := 37) (ys := rl.map ruleW) fun y hy => by
    obtain ⟨r, hr', rfl⟩ := List.mem_map.mp hy
    have := ruleW_len m5 (hr.all r hr')
    omega
  have hc : colW.length = 7 := by decide +kernel
  have hn := numL_5 (i := m) (by omega) (by omega)
  have hh : (headL m).length ≤ 12 := by unfold headL; rw [List.length_append, List.length_cons, hc]; omega
  unfold textR
  rw [List.length_append, List.length_singleton]
  rw [List.map_cons, List.sum_cons, List.length_cons, List.length_map, List.length_singleton] at h1
  rw [List.length_map] at h2
  omega
theorem textR_low {m : Int} {rl : List Rule} : (textR m rl).all (· < 128) = true := by
  rw [List.all_eq_true]
  intro c hc
  rw [decide_eq_true_eq]
  have dg : ∀ n, c ∈ numL n → c < 128 := fun n h => by have := (numL_digits n c h).2; omega
  have hcol : c ∈ colW → c < 128 := by
    have : ∀ c ∈ colW, c < 128 := by decide +kernel
    exact this c
  rcases List.mem_append.mp hc with h | h
  · rcases joinL_mem h with h | ⟨p, hp, h⟩
    · rw [List.mem_singleton.mp h]; decide
    · rcases List.mem_cons.mp hp with rfl | hp
      · rcases List.mem_append.mp h with h | h
        · exact hcol h
        · rcases List.mem_cons.mp h with rfl | h
          · decide
          · exact dg _ h
      · obtain ⟨r, _, rfl⟩ := List.mem_map.mp hp
        rcases joinL_mem h with h | ⟨p, hp, h⟩
        · rw [List.mem_singleton.mp h]; decide
        · rcases List.mem_append.mp hp with hp | hp
          · obtain ⟨x, _, rfl⟩ := List.mem_map.mp hp
            exact dg _ h
          · simp only [List.mem_cons, List.not_mem_nil, or_false] at hp
            rcases hp with rfl | rfl
            · rw [List.mem_singleton.mp h]; decide
            · exact dg _ h
  · rw [List.mem_singleton.mp h]; decide
theorem hS_law_text : ∀ δ P, S_law_text δ P → ArgOk 2 δ ∧ wb_law_text (endsOf δ P) (δ ++ List.replicate (3 - 2) Sl.un) := by
  rintro δ P ⟨m, rl, rfl, m1, m5, hr, h⟩
  refine ⟨argD [.int m, .list (strL (rl.map ruleW))], ?_⟩
  unfold wb_law_text
  have few := hr.few
  have hc : colW.length = 7 := by decide +kernel
  have hn := numL_5 (i := m) (by omega) (by omega)
  walk_at "ds"
  refine ⟨small_log (by omega) (by omega), ?_⟩
  rw [str_nat (by omega), lit_columns]
  refine catS (by rw [List.length_append, hc, List.length_singleton]; omega) ?_
  walk_at "ds"
  have eh : colW ++ [32] ++ numL m.toNat = headL m := by unfold headL; simp
  rw [eh]
  have hsl : (strL (rl.map ruleW)).length = rl.length := by unfold strL; rw [List.length_map, List.length_map]
  refine ⟨⟨rfl, by show 1 ≤ 1000; decide⟩, by rw [hsl]; show 1 + rl.length < 100000; omega, ?_⟩
  have e1 : PyData.str (SX.S (headL m)) :: strL (rl.map ruleW) = (headL m :: rl.map ruleW).map fun l => PyData.str (SX.S l) := rfl
  refine ⟨⟨by show (strL (rl.map ruleW)).length + 1 ≤ 100000; rw [hsl]; omega, rfl⟩, ?_⟩
  rw [e1]
  have hlen : ∀ l ∈ headL m :: rl.map ruleW, l.length ≤ 37 := fun l hl => by
    rcases List.mem_cons.mp hl with rfl | hl
    · unfold headL; rw [List.length_append, List.length_cons, hc]; omega
    · obtain ⟨r, hr', rfl⟩ := List.mem_map.mp hl
      have := ruleW_len m5 (hr.all r hr')
      omega
  refine go_mapT (fun l => PyData.str (SX.S l)) (fun l => PyData.str (SX.S (l ++ [10]))) (headL m :: rl.map ruleW) (fun l hl C C' h2 => ?_) ?_
  · walk_at "ds"
    refine ifT rfl ?_
    rw [lit_nl]
    have := hlen l hl
    exact catS (by rw [List.length_singleton]; omega) ⟨rfl, h2⟩
  walk_at "ds"
  have e2 : ((headL m :: rl.map ruleW).map fun l => PyData.str (SX.S (l ++ [10]))) = strL ((headL m :: rl.map ruleW).map (· ++ [10])) := by unfold strL; rw [List.map_map]; rfl
  refine ⟨((headL m :: rl.map ruleW).map (· ++ [10])).map SX.S, by rw [strL_map, ← e2], ?_, ?_⟩
  · rw [lit_no]
    have h3 := sumL (k := 38) (ys := (headL m :: rl.map ruleW).map (· ++ [10])) fun y hy => by
      obtain ⟨l, hl, rfl⟩ := List.mem_map.mp hy
      have := hlen l hl
      rw [List.length_append, List.length_singleton]; omega
    rw [List.length_map, List.length_cons, List.length_map] at h3
    exact joinZ (by rw [List.length_nil, Nat.mul_zero]; omega)
  rw [lit_no, SX.join_S, joinL_nil, join_ends]
  exact h
theorem neg_list {xs : List PyData} {k : Bool} {P : Rv → Prop} (e : ∃ n : Nat, xs = List.replicate n (.int 1)) (q : xs.isEmpty = k) (h : P (.d (.bool (!k)))) : rNeT (.list xs) (.list []) P := by
  obtain ⟨n, rfl⟩ := e
  refine ne_ok (k := k) ?_ ?_ h
  · show (SeqAt.shaped _ && SeqAt.shaped (.list [])) = true
    rw [shaped_flat fun x hx => ⟨1, List.eq_of_mem_replicate hx⟩]; rfl
  · rw [← q]
    cases n <;> rfl
theorem strix {z : Str} {c : Nat} {P : Rv → Prop} (e : atI z.cps.toList 0 = some c) (hl : z.length ≤ sizeLine) (h : P (.d (.str ⟨#[c]⟩))) : Dw.rIxSD (.str z) (.int 0) P := by
  unfold Dw.rIxSD
  simp only [e]
  exact ⟨hl, h⟩
theorem int_read {w : List Nat} (h : readN w ≠ -1) : intText? (SX.S w) = some (readN w) ∧ w.length ≤ 4 := by
  unfold readN at h ⊢
  by_cases hd : digOk w = true
  · rw [if_pos hd] at h ⊢
    by_cases hz : zed w = true
    · rw [if_pos hz] at h; exact absurd rfl h
    · rw [if_neg hz]
      refine ⟨int_w hd, ?_⟩
      unfold digOk at hd
      rw [Bool.and_eq_true, Bool.and_eq_true, decide_eq_true_eq, decide_eq_true_eq] at hd
      exact hd.1.2
  · rw [if_neg hd] at h; exact absurd rfl h
theorem in_five {y : List Nat} : inD (.str (SX.S y)) [.str "1", .str "2", .str "3", .str "4", .str "5"] = decide (1 ≤ readN y ∧ readN y ≤ 5) := by
  have e : ([.str "1", .str "2", .str "3", .str "4", .str "5"] : List PyData) = [.str (SX.S [49]), .str (SX.S [50]), .str (SX.S [51]), .str (SX.S [52]), .str (SX.S [53])] := by
    have a1 : ("1" : Str) = SX.S [49] := by decide +kernel
    have a2 : ("2" : Str) = SX.S [50] := by decide +kernel
    have a3 : ("3" : Str) = SX.S [51] := by decide +kernel
    have a4 : ("4" : Str) = SX.S [52] := by decide +kernel
    have a5 : ("5" : Str) = SX.S [53] := by decide +kernel
    rw [a1, a2, a3, a4, a5]
  rw [e]
  unfold inD
  rw [List.any_cons, List.any_cons, List.any_cons, List.any_cons, List.any_cons, List.any_nil, sEq, sEq, sEq, sEq, sEq, Bool.or_false]
  rw [Bool.eq_iff_iff, decide_eq_true_eq, five]
  simp only [Bool.or_eq_true, decide_eq_true_eq]
  constructor <;> (intro h; rcases h with h | h | h | h | h <;> simp [h])
theorem notin5 {y : List Nat} {P : Rv → Prop} (h : P (.d (.bool (!decide (1 ≤ readN y ∧ readN y ≤ 5))))) : rInT true (.str (SX.S y)) (.list (List.map Rv.as [.d (.str "1"), .d (.str "2"), .d (.str "3"), .d (.str "4"), .d (.str "5")])) P := by
  refine ⟨⟨rfl, rfl⟩, ?_⟩
  rw [if_pos rfl]
  have := in_five (y := y)
  show P (.d (.bool (!inD (.str (SX.S y)) [.str "1", .str "2", .str "3", .str "4", .str "5"])))
  rw [this]
  exact h
theorem hS_law_number : ∀ δ P, S_law_number δ P → ArgOk 1 δ ∧ wb_law_number (endsOf δ P) (δ ++ List.replicate (2 - 1) Sl.un) := by
  rintro δ P ⟨w, rfl, hw, h⟩
  refine ⟨argD [.str (SX.S w)], ?_⟩
  unfold wb_law_number
  refine seqT fun T hT => ?_
  have z3 : sizeLine ≥ 100000 := by rw [sizeLine_eq]; decide
  walk_at "ds"
  refine ⟨by rw [sLen]; omega, ?_⟩
  rw [sLen]
  by_cases q1 : 1 ≤ w.length
  case neg =>
    have e : readN w = -1 := by
      unfold readN digOk
      rw [decide_eq_false q1]; rfl
    rw [e] at h
    refine ifF (decide_eq_false (by omega)) ?_
    exact ifT rfl (ifT rfl h)
  refine ifT (decide_eq_true (by omega)) ?_
  by_cases q2 : w.length ≤ 4
  case neg =>
    have e : readN w = -1 := by
      unfold readN digOk
      rw [decide_eq_false q2, Bool.and_false]; rfl
    rw [e] at h
    refine ifT (by rw [decide_eq_false (by omega)]; rfl) ?_
    exact ifT rfl h
  refine ifF (by rw [decide_eq_true (by omega)]; rfl) ?_
  refine ⟨SX.S w, rfl, ⟨by rw [List.length_map]; show w.length ≤ 100000; omega, rfl⟩, ?_⟩
  show wGo _ _ _ _ _ (w.map fun c => PyData.str ⟨#[c]⟩) _ _
  refine go_filT (fun c => PyData.str ⟨#[c]⟩) (fun c => !isDig c) (fun _ => .int 1) w [] (fun c hc C C' h2 h3 => ?_) ?_
  · walk_at "ds"
    refine ⟨c, _, rfl, rfl, ?_⟩
    rw [in_digits]
    cases qd : isDig c with
    | true => exact ifF rfl (h3 (by rw [qd]; rfl))
    | false => exact ifT rfl ⟨rfl, h2 (by rw [qd]; rfl)⟩
  walk_at "ds"
  have ex : (w.filter fun c => !isDig c).isEmpty = w.all isDig := by
    rw [Bool.eq_iff_iff, List.isEmpty_iff, List.filter_eq_nil_iff, List.all_eq_true]
    simp
  have ed : digOk w = w.all isDig := by
    unfold digOk
    rw [decide_eq_true q1, decide_eq_true q2]; rfl
  refine ⟨⟨rfl, by decide⟩, neg_list (k := w.all isDig) ⟨_, List.map_const' ..⟩ (by rw [List.isEmpty_map, ex]) ?_⟩
  walk_at "ds"
  cases qa : w.all isDig with
  | false =>
    have e : readN w = -1 := by
      unfold readN
      rw [ed, qa]; rfl
    rw [e] at h
    exact ifT rfl h
  | true =>
    refine ifF rfl ?_
    rw [hT]
    have hd : digOk w = true := by rw [ed, qa]
    have er : readN w = if zed w = true then -1 else ((NumText.digitsVal w : Nat) : Int) := by
      unfold readN
      rw [if_pos hd]
    rw [er] at h
    walk_at "ds"
    refine ⟨by rw [sLen]; omega, ?_⟩
    rw [sLen]
    obtain ⟨c, w2, rfl⟩ : ∃ c w2, w = c :: w2 := by
      cases w with
      | nil => exact absurd q1 (by decide)
      | cons c w2 => exact ⟨c, w2, rfl⟩
    have go : P (.d (.int ((NumText.digitsVal (c :: w2) : Nat) : Int))) [.d (.str (SX.S (c :: w2)))] → (∃ n, intText? (SX.S (c :: w2)) = some n ∧ (SX.S (c :: w2)).length ≤ 640 ∧ P (.d (.int n)) [.d (.str (SX.S (c :: w2)))]) := fun h => ⟨_, int_w hd, by rw [sLen]; omega, h⟩
    by_cases qn : 1 < (c :: w2).length
    case neg =>
      have ez : zed (c :: w2) = false := by unfold zed; rw [decide_eq_false qn]; rfl
      rw [ez] at h
      refine ifF (decide_eq_false (by omega)) ?_
      exact ifF rfl (go h)
    refine ifT (decide_eq_true (by omega)) ?_
    refine strix (c := c) (atI_of (by decide) rfl) (by rw [sLen]; omega) ?_
    walk_at "ds"
    have e0 : ("0" : Str) = SX.S [48] := by decide +kernel
    rw [e0]
    refine eq_ok (k := decide (c = 48)) rfl ?_ ?_
    · show PyData.eqv (.str (SX.S [c])) _ = _
      rw [sEq]
      by_cases q : c = 48 <;> simp [q]
    walk_at "ds"
    have ez : zed (c :: w2) = decide (c = 48) := by
      unfold zed
      rw [decide_eq_true qn]
      by_cases q : c = 48 <;> simp [q]
    rw [ez] at h
    by_cases q : c = 48
    · rw [decide_eq_true q] at h ⊢
      exact ifT rfl h
    · rw [decide_eq_false q] at h ⊢
      exact ifF rfl (go h)
theorem last_eq (a : List Nat) : PyData.eqv (.str (Txt.slice (SX.S a) (some (-1)) none)) (.str (SX.S [10])) = decide (a.drop (a.length - 1) = [10]) := by
  by_cases h : a = []
  · subst h; decide +kernel
  · rw [SX.slice_last h, sEq]
theorem headD_cons {a l : List Nat} {ls : List (List Nat)} (hd : a.drop (a.length - 1) = [10]) (el : linesOf a = l :: ls) : headD (.str (SX.S a)) = match headW (wordsOf l) with
    | some m => .tuple [.int m, .list (strL ls)]
    | none => .none := by
  unfold headD
  show (match headA a with | some (m, ls) => PyData.tuple [.int m, .list (strL ls)] | none => .none) = _
  rw [headA_cons hd el]
  cases headW (wordsOf l) <;> rfl
theorem headD_no {a : List Nat} (hd : a.drop (a.length - 1) ≠ [10]) : headD (.str (SX.S a)) = .none := by
  unfold headD
  show (match headA a with | some (m, ls) => PyData.tuple [.int m, .list (strL ls)] | none => .none) = _
  rw [headA_no hd]
theorem hS_law_headed : ∀ δ P, S_law_headed δ P → ArgOk 1 δ ∧ wb_law_headed (endsOf δ P) (δ ++ List.replicate (3 - 1) Sl.un) := by
  rintro δ P ⟨d, rfl, ⟨ho, hz⟩, h⟩
  refine ⟨argD [d], ?_⟩
  unfold wb_law_headed isStrA
  have z3 : sizeLine ≥ 100000 := by rw [sizeLine_eq]; decide
  refine seqT fun T hT => ?_
  walk_at "ds"
  rw [isA ho]
  cases d with
  | str z =>
    obtain ⟨a, rfl⟩ : ∃ a, z = SX.S a := ⟨z.cps.toList, (SX.S_tl z).symm⟩
    have hl := hz _ rfl
    rw [sLen] at hl
    refine ifF rfl ?_
    refine ⟨_, rfl, by rw [sLen]; omega, ?_⟩
    rw [lit_nl]
    refine ne_ok (k := decide (a.drop (a.length - 1) = [10])) rfl (last_eq a) ?_
    walk_at "ds"
    by_cases hd : a.drop (a.length - 1) = [10]
    case neg =>
      rw [headD_no hd] at h
      exact ifT (by rw [decide_eq_false hd]; rfl) h
    refine ifF (by rw [decide_eq_true hd]; rfl) ?_
    rw [hT]
    have hne : a ≠ [] := fun e => by rw [e] at hd; cases hd
    obtain ⟨l, ls, el⟩ : ∃ l ls, linesOf a = l :: ls := by
      cases q : linesOf a with
      | nil => exact absurd q lines_ne
      | cons l ls => exact ⟨l, ls, rfl⟩
    have ll : ∀ y ∈ linesOf a, y.length ≤ a.length := fun y hy => line_len hy
    have es : (Txt.split (Txt.slice (SX.S a) none (some (-1))) ("\n" : Str)).map PyData.str = strL (l :: ls) := by
      rw [SX.slice_butlast hne, lit_nl, splitS (by decide), ← el]; rfl
    rw [el] at ll
    rw [headD_cons hd el] at h
    walk_at "ds"
    refine ⟨_, rfl, by rw [sLen]; omega, ?_⟩
    refine ⟨_, rfl, ?_, ?_⟩
    · rw [SX.slice_butlast hne, sLen, List.length_take]; omega
    rw [es]
    refine ⟨rfl, lstix (z := .str (SX.S l)) ?_ ?_⟩
    · exact atI_of (by decide) rfl
    walk_at "ds"
    have lle := ll l (by simp)
    have ew : (Txt.split (SX.S l) (" " : Str)).map PyData.str = strL (wordsOf l) := by
      rw [lit_sp, splitS (by decide)]; rfl
    refine ⟨SX.S l, rfl, by rw [sLen]; omega, ?_⟩
    rw [ew]
    have wl : ∀ y ∈ wordsOf l, y.length ≤ l.length := fun y hy => word_len hy
    have hsl : (strL (wordsOf l)).length = (wordsOf l).length := by unfold strL; rw [List.length_map]
    refine ⟨rfl, ?_⟩
    rw [hsl]
    refine ne_ok (k := decide ((wordsOf l).length = 2)) rfl ?_ ?_
    · rw [eqv_int, decide_eq_decide]; omega
    walk_at "ds"
    by_cases q2 : (wordsOf l).length = 2
    case neg =>
      refine ifT (by rw [decide_eq_false q2]; rfl) ?_
      refine ifT rfl ?_
      have e : headW (wordsOf l) = none := by
        match wordsOf l, q2 with
        | [], _ => rfl
        | [_], _ => rfl
        | [_, _], q2 => exact absurd rfl q2
        | _ :: _ :: _ :: _, _ => rfl
      rw [e] at h
      exact h
    refine ifF (by rw [decide_eq_true q2]; rfl) ?_
    obtain ⟨x, y, exy⟩ : ∃ x y, wordsOf l = [x, y] := by
      match wordsOf l, q2 with
      | [x, y], _ => exact ⟨x, y, rfl⟩
    rw [exy] at h wl ⊢
    have esx : strL [x, y] = [.str (SX.S x), .str (SX.S y)] := rfl
    rw [esx]
    refine ⟨rfl, lstix (z := .str (SX.S x)) rfl ?_⟩
    walk_at "ds"
    rw [lit_col]
    refine ne_ok (k := decide (x = colW)) rfl (sEq _ _) ?_
    walk_at "ds"
    have eh : headW [x, y] = if x = colW ∧ 1 ≤ readN y ∧ readN y ≤ 5 then some (readN y) else none := rfl
    rw [eh] at h
    by_cases qx : x = colW
    case neg =>
      refine ifT (by rw [decide_eq_false qx]; rfl) ?_
      rw [if_neg (fun z => qx z.1)] at h
      exact ifT rfl h
    refine ifF (by rw [decide_eq_true qx]; rfl) ?_
    refine ⟨rfl, lstix (z := .str (SX.S y)) rfl ?_⟩
    walk_at "ds"
    refine ⟨⟨rfl, by decide⟩, notin5 ?_⟩
    walk_at "ds"
    by_cases qm : 1 ≤ readN y ∧ readN y ≤ 5
    case neg =>
      rw [if_neg (fun z => qm z.2)] at h
      exact ifT (by rw [decide_eq_false qm]; rfl) h
    rw [if_pos ⟨qx, qm⟩] at h
    refine ifF (by rw [decide_eq_true qm]; rfl) ?_
    refine ⟨rfl, lstix (z := .str (SX.S y)) rfl ?_⟩
    walk_at "ds"
    obtain ⟨ir, il⟩ := int_read (w := y) (by omega)
    refine ⟨_, ir, by rw [sLen]; omega, rfl, ⟨rfl, by show 2 ≤ 1000; decide⟩, ?_⟩
    have ec : Dw.cutD (strL (l :: ls)) (some 1) none = strL ls := by
      rw [show (some (1 : Int)) = some ((1 : Nat) : Int) from rfl, cutL_from]; rfl
    rw [ec]
    exact h
  | _ =>
    exact ifT rfl (ifT rfl h)
theorem headD_cases {d : PyData} (ht : TxOk d) : (headD d = .none ∧ parsRD d = none) ∨ ∃ m ls, headD d = .tuple [.int m, .list (strL ls)] ∧ 1 ≤ m ∧ m ≤ 5 ∧ ls.length ≤ 900 ∧ (∀ l ∈ ls, l.length ≤ 900) ∧ parsRD d = if rulesB m (rulesA ls) = true then some (pairA m ls) else none := by
  cases d with
  | str z =>
    obtain ⟨a, rfl⟩ : ∃ a, z = SX.S a := ⟨z.cps.toList, (SX.S_tl z).symm⟩
    have hl := ht.2 _ rfl
    rw [sLen] at hl
    by_cases hd : a.drop (a.length - 1) = [10]
    · obtain ⟨l, ls, el⟩ : ∃ l ls, linesOf a = l :: ls := by
        cases q : linesOf a with
        | nil => exact absurd q lines_ne
        | cons l ls => exact ⟨l, ls, rfl⟩
      have ll : ∀ y ∈ linesOf a, y.length ≤ a.length := fun y hy => line_len hy
      have ln := lines_len (a := a)
      rw [el] at ll ln
      rw [headD_cons hd el]
      cases q : headW (wordsOf l) with
      | none => exact .inl ⟨rfl, parsR_none (by show headA a = none; rw [headA_cons hd el, q]; rfl)⟩
      | some m =>
        obtain ⟨m1, m5⟩ := headW_rng q
        refine .inr ⟨m, ls, rfl, m1, m5, by rw [List.length_cons] at ln; omega, fun y hy => by have := ll y (List.mem_cons_of_mem _ hy); omega, ?_⟩
        exact parsR_some (by show headA a = _; rw [headA_cons hd el, q]; rfl)
    · exact .inl ⟨headD_no hd, parsR_none (headA_no hd)⟩
  | _ => exact .inl ⟨rfl, rfl⟩
theorem tx_S {a : List Nat} (h : a.length ≤ 900) : TxOk (.str (SX.S a)) := ⟨rfl, fun z e => by cases e; rw [sLen]; exact h⟩
theorem tx_str {z : Str} (h : z.length ≤ 900) : TxOk (.str z) := ⟨rfl, fun z' e => by cases e; exact h⟩
theorem tx_odd {d : PyData} (h : odd d = true) (n : ∀ z, d ≠ .str z) : TxOk d := ⟨h, fun z e => absurd e (n z)⟩
theorem rep_len (x y z : Str) (hy : 1 ≤ y.length) (hz : z.length ≤ y.length + 1) : (Txt.replace x y z).length ≤ 2 * x.length := by
  unfold Txt.replace
  split
  · omega
  · have e : (Builtin.Str.glued y (Builtin.Str.partsBetween x (Builtin.Str.occurrences x y 0 x.length (x.length + 1)) y.length)).length = x.length := by rw [StrLaws.glued_between_self]
    rw [PySem.size_glued, PySem.length_partsBetween, Nat.add_sub_cancel] at e
    rw [PySem.size_glued, PySem.length_partsBetween, Nat.add_sub_cancel]
    generalize (Builtin.Str.occurrences x y 0 x.length (x.length + 1)).length = n at e ⊢
    have h1 : n * z.length ≤ n * (y.length + 1) := Nat.mul_le_mul_left _ hz
    have h2 : n ≤ n * y.length := Nat.le_mul_of_pos_right _ hy
    rw [Nat.mul_succ] at h1
    omega
theorem spl_sum {s : Nat} : ∀ (l acc : List Nat), ((spl [s] 0 acc l).map List.length).sum ≤ acc.length + l.length
  | [], acc => by rw [spl_nil]; simp
  | c :: r, acc => by
    rw [spl_step]
    split
    · have := spl_sum (s := s) r []
      simp only [List.map_cons, List.sum_cons, List.length_cons, List.length_nil] at this ⊢; omega
    · have := spl_sum (s := s) r (acc ++ [c])
      simp only [List.length_append, List.length_cons, List.length_nil] at this ⊢; omega
theorem cutL_to (xs : List PyData) (k : Nat) : Dw.cutD xs none (some (k : Int)) = xs.take k := by
  unfold Dw.cutD
  rw [HT.sIx_none, HT.sIx_nat, List.drop_zero, Nat.sub_zero]
  rcases Nat.le_total k xs.length with z | z
  · rw [Nat.min_eq_left z]
  · rw [Nat.min_eq_right z, List.take_length, List.take_of_length_le z]
theorem hS_law_near : ∀ δ P, S_law_near δ P → ArgOk 2 δ ∧ wb_law_near (endsOf δ P) (δ ++ List.replicate (7 - 2) Sl.un) := by
  rintro δ P ⟨xs, n, a, rfl, hp, hn, a1, a330, alow, h⟩
  refine ⟨argO _ [.str (SX.S a)], ?_⟩
  unfold wb_law_near
  have z3 : sizeLine ≥ 100000 := by rw [sizeLine_eq]; decide
  refine seqT fun T hT => ?_
  walk_at "ds"
  refine ⟨by rw [sLen]; omega, ?_⟩
  rw [sLen]
  refine ⟨rfl, xs, n, a.length, rfl, hp, by omega, by omega, by omega, fun ys i hy i0 i1 => ?_⟩
  walk_at "ds"
  refine ⟨rfl, rfl, ys, n + 1, 12, rfl, hy, by omega, by decide, by decide, fun zs s hz s0 s1 => ?_⟩
  walk_at "ds"
  have esg : ("0123459 \n->c" : Str).cps.toList.length = 12 := by decide +kernel
  have hs : s.toNat < ("0123459 \n->c" : Str).cps.toList.length := by rw [esg]; omega
  obtain ⟨sc, hsc⟩ : ∃ c, atI ("0123459 \n->c" : Str).cps.toList s = some c := ⟨_, atI_of s0 (List.getElem?_eq_getElem hs)⟩
  unfold Dw.rIxSD
  simp only [hsc]
  refine ⟨by show ("0123459 \n->c" : Str).cps.toList.length ≤ _; rw [esg]; omega, rfl, ?_⟩
  have e1 : (⟨#[sc]⟩ : Str) = SX.S [sc] := rfl
  rw [e1]
  walk_at "ds"
  rw [hT]
  refine seqT fun T hT => ?_
  have hne : a ≠ [] := fun e => by subst e; exact absurd a1 (by decide)
  have ebut := SX.slice_butlast hne
  have es : (Txt.split (Txt.slice (SX.S a) none (some (-1))) ("\n" : Str)).map PyData.str = strL (linesOf a) := by
    rw [ebut, lit_nl, splitS (by decide)]; rfl
  have lsum : ((linesOf a).map List.length).sum ≤ a.length := by
    have := spl_sum (s := 10) (a.take (a.length - 1)) []
    have h2 : (a.take (a.length - 1)).length ≤ a.length := by rw [List.length_take]; omega
    simp only [List.length_nil, Nat.zero_add] at this
    exact Nat.le_trans this h2
  have llen := lines_len (a := a)
  have lle : ∀ l ∈ linesOf a, l.length ≤ a.length := fun l hl => line_len hl
  have hsl : (strL (linesOf a)).length = (linesOf a).length := by unfold strL; rw [List.length_map]
  walk_at "ds"
  refine ⟨_, rfl, by rw [sLen]; omega, _, rfl, by rw [ebut, sLen, List.length_take]; omega, ?_⟩
  rw [es]
  rw [hT]
  refine seqT fun T hT => ?_
  walk_at "ds"
  have lpos : 1 ≤ (linesOf a).length := List.length_pos_iff.mpr lines_ne
  refine ⟨rfl, rfl, zs, n + 2, (linesOf a).length, by rw [hsl], hz, by omega, by omega, by omega, fun us j hu j0 j1 => ?_⟩
  walk_at "ds"
  have hj : j.toNat < (linesOf a).length := by omega
  have hl3 := lle _ (List.getElem_mem hj)
  generalize eL : (linesOf a)[j.toNat] = l3 at hl3
  refine ⟨rfl, lstix (z := .str (SX.S l3)) (atI_of j0 ?_) ?_⟩
  · unfold strL
    rw [List.getElem?_map, List.getElem?_eq_getElem hj, eL]; rfl
  walk_at "ds"
  rw [hT]
  refine seqT fun T hT => ?_
  walk_at "ds"
  have za : (SX.S a).length ≤ sizeLine := by rw [sLen]; omega
  have eA : Txt.slice (SX.S a) none (some i) = SX.S (a.take i.toNat) := SX.slice_to i0
  have eB : Txt.slice (SX.S a) (some (i + 1)) none = SX.S (a.drop (i + 1).toNat) := SX.slice_from (by omega)
  have eC : Txt.slice (SX.S a) (some i) none = SX.S (a.drop i.toNat) := SX.slice_from i0
  have lA : (a.take i.toNat).length ≤ 330 := by rw [List.length_take]; omega
  have lB : (a.drop (i + 1).toNat).length ≤ 330 := by rw [List.length_drop]; omega
  have lC : (a.drop i.toNat).length ≤ 330 := by rw [List.length_drop]; omega
  generalize a.take i.toNat = p at eA lA
  generalize a.drop (i + 1).toNat = q at eB lB
  generalize a.drop i.toNat = r at eC lC
  refine ⟨_, rfl, za, _, rfl, za, ?_⟩
  rw [eA, eB]
  refine catS (by omega) ?_
  walk_at "ds"
  refine ⟨_, rfl, za, ?_⟩
  rw [eA]
  refine catS (by rw [List.length_singleton]; omega) ?_
  refine ⟨_, rfl, za, ?_⟩
  walk_at "ds"
  rw [eC]
  refine catS (by rw [List.length_append, List.length_singleton]; omega) ?_
  walk_at "ds"
  refine ⟨⟨rfl, by show 2 ≤ 1000; decide⟩, ?_⟩
  have t1 : ∀ d ∈ [PyData.str (SX.S (p ++ q)), .str (SX.S (p ++ [sc] ++ r))], TxOk d := fun d hd => by
    simp only [List.mem_cons, List.not_mem_nil, or_false] at hd
    rcases hd with rfl | rfl
    · exact tx_S (by rw [List.length_append]; omega)
    · exact tx_S (by rw [List.length_append, List.length_append, List.length_singleton]; omega)
  have n1 : [PyData.str (SX.S (p ++ q)), .str (SX.S (p ++ [sc] ++ r))].length = 2 := rfl
  generalize [PyData.str (SX.S (p ++ q)), .str (SX.S (p ++ [sc] ++ r))] = D1 at t1 n1 ⊢
  rw [hT]
  refine seqT fun T hT => ?_
  walk_at "ds"
  refine ⟨_, rfl, za, ?_⟩
  rw [eA]
  refine catS (by rw [List.length_singleton]; omega) ?_
  refine ⟨_, rfl, za, ?_⟩
  walk_at "ds"
  rw [eB]
  refine catS (by rw [List.length_append, List.length_singleton]; omega) ?_
  walk_at "ds"
  refine ⟨_, rfl, za, ?_⟩
  rw [ebut, lit_nl]
  refine catS (by rw [List.length_singleton]; omega) ?_
  refine catS (by omega) ?_
  walk_at "ds"
  refine catS (by rw [List.length_append, List.length_singleton]; omega) ?_
  walk_at "ds"
  have lT : (a.take (a.length - 1)).length ≤ 330 := by rw [List.length_take]; omega
  refine ⟨⟨rfl, by show 4 ≤ 1000; decide⟩, rfl, by rw [n1]; show 2 + 4 < 100000; decide, ?_⟩
  refine (fun step : ∀ D : List PyData, D.length = 6 → (∀ d ∈ D, TxOk d) → T [.o us, .d (.str (SX.S a)), .o (strL (linesOf a)), .d (.str (SX.S l3)), .o D, .d (.int i), .d (.str (SX.S [sc]))] => step _ (by rw [List.length_append, n1]; rfl) fun d hd => ?_) (fun D2 n2 t2 => ?_)
  · rcases List.mem_append.mp hd with hd | hd
    · exact t1 d hd
    obtain ⟨x, hx, rfl⟩ := List.mem_map.mp hd
    simp only [List.mem_cons, List.not_mem_nil, or_false] at hx
    rcases hx with rfl | rfl | rfl | rfl
    · exact tx_S (by first | omega | (simp only [List.length_append, List.length_singleton, List.length_cons, List.length_nil]; omega))
    · exact tx_S (by first | omega | (simp only [List.length_append, List.length_singleton, List.length_cons, List.length_nil]; omega))
    · exact tx_S (by first | omega | (simp only [List.length_append, List.length_singleton, List.length_cons, List.length_nil]; omega))
    · exact tx_S (by first | omega | (simp only [List.length_append, List.length_singleton, List.length_cons, List.length_nil]; omega))
  rw [hT]
  refine seqT fun T hT => ?_
  walk_at "ds"
  rw [lit_sp]
  refine catS (by rw [List.length_singleton]; omega) ?_
  walk_at "ds"
  refine ⟨_, rfl, by rw [sLen]; omega, ?_⟩
  rw [SX.upper_S alow]
  refine catS (by rw [List.length_singleton]; omega) ?_
  have lU : (a.map PyProof.Rows.up1).length ≤ 330 := by rw [List.length_map]; exact a330
  have rl : ∀ y z : Str, 1 ≤ y.length → z.length ≤ y.length + 1 → (Txt.replace (SX.S a) y z).length ≤ 660 := fun y z h1 h2 => by
    have := rep_len (SX.S a) y z h1 h2
    have e := sLen a
    omega
  have rg : ∀ z : Str, z.length ≤ 20 → (SX.S a).length + ((SX.S a).length + 1) * z.length ≤ 16777216 := fun z hz => by
    rw [sLen]
    have : (a.length + 1) * z.length ≤ 331 * 20 := Nat.mul_le_mul (by omega) hz
    omega
  have r1 := rl (SX.S [32]) ("  " : Str) (by decide) (by decide)
  refine ⟨_, rfl, rg _ (by decide), ?_⟩
  generalize Txt.replace (SX.S a) (SX.S [32]) ("  " : Str) = g1 at r1 ⊢
  walk_at "ds"
  refine ⟨⟨rfl, by show 1 ≤ 1000; decide⟩, ⟨rfl, by show 1 ≤ 1000; decide⟩, ?_⟩
  refine ⟨⟨rfl, by show 6 ≤ 1000; decide⟩, rfl, by rw [n2]; show 6 + 6 < 100000; decide, ?_⟩
  refine (fun step : ∀ D : List PyData, D.length = 12 → (∀ d ∈ D, TxOk d) → T [.o us, .d (.str (SX.S a)), .o (strL (linesOf a)), .d (.str (SX.S l3)), .o D, .d (.int i), .d (.str (SX.S [sc]))] => step _ (by rw [List.length_append, n2]; rfl) fun d hd => ?_) (fun D3 n3 t3 => ?_)
  · rcases List.mem_append.mp hd with hd | hd
    · exact t2 d hd
    obtain ⟨x, hx, rfl⟩ := List.mem_map.mp hd
    simp only [List.mem_cons, List.not_mem_nil, or_false] at hx
    rcases hx with rfl | rfl | rfl | rfl | rfl | rfl
    · exact tx_S (by first | omega | (simp only [List.length_append, List.length_singleton, List.length_cons, List.length_nil]; omega))
    · exact tx_S (by first | omega | (simp only [List.length_append, List.length_singleton, List.length_cons, List.length_nil]; omega))
    · exact tx_S (by first | omega | (simp only [List.length_append, List.length_singleton, List.length_cons, List.length_nil]; omega))
    · exact tx_str (by omega)
    · exact tx_odd rfl (fun z e => by cases e)
    · exact tx_odd rfl (fun z e => by cases e)
  rw [hT]
  refine seqT fun T hT => ?_
  walk_at "ds"
  have ec1 : Dw.cutD (strL (linesOf a)) (some 1) none = strL ((linesOf a).drop 1) := by
    rw [show (some (1 : Int)) = some ((1 : Nat) : Int) from rfl, cutL_from]
    unfold strL
    rw [List.map_drop]
  have ec2 : Dw.cutD (strL (linesOf a)) none (some 1) = strL ((linesOf a).take 1) := by
    rw [show (some (1 : Int)) = some ((1 : Nat) : Int) from rfl, cutL_to]
    unfold strL
    rw [List.map_take]
  rw [ec1, ec2]
  have ee : strL ((linesOf a).drop 1) ++ strL ((linesOf a).take 1) = strL ((linesOf a).drop 1 ++ (linesOf a).take 1) := by unfold strL; rw [List.map_append]
  rw [ee]
  have jl := joinL_len [10] ((linesOf a).drop 1 ++ (linesOf a).take 1)
  have jsum : (((linesOf a).drop 1 ++ (linesOf a).take 1).map List.length).sum = ((linesOf a).map List.length).sum := by
    have : (linesOf a).map List.length = ((linesOf a).take 1).map List.length ++ ((linesOf a).drop 1).map List.length := by rw [← List.map_append, List.take_append_drop]
    rw [this, List.map_append, List.sum_append, List.sum_append, Nat.add_comm]
  have jlen : ((linesOf a).drop 1 ++ (linesOf a).take 1).length = (linesOf a).length := by
    rw [List.length_append, List.length_drop, List.length_take]; omega
  refine ⟨rfl, rfl, by unfold strL; rw [List.length_map, List.length_map, List.length_drop, List.length_take]; omega, ((linesOf a).drop 1 ++ (linesOf a).take 1).map SX.S, by rw [strL_map], ?_, ?_⟩
  · rw [lit_nl]
    exact joinZ (by rw [jsum, jlen, List.length_singleton]; omega)
  rw [lit_nl, SX.join_S]
  rw [jsum, jlen, List.length_singleton] at jl
  generalize joinL [10] ((linesOf a).drop 1 ++ (linesOf a).take 1) = v at jl ⊢
  refine catS (by rw [List.length_singleton]; omega) ?_
  have r2 := rl (" " : Str) (" 0" : Str) (by decide) (by decide)
  refine ⟨_, rfl, rg _ (by decide), ?_⟩
  generalize Txt.replace (SX.S a) (" " : Str) (" 0" : Str) = g2 at r2 ⊢
  walk_at "ds"
  refine ⟨⟨rfl, by show 2 ≤ 1000; decide⟩, rfl, by rw [n3]; show 12 + 2 < 100000; decide, ?_⟩
  refine (fun step : ∀ D : List PyData, D.length = 14 → (∀ d ∈ D, TxOk d) → T [.o us, .d (.str (SX.S a)), .o (strL (linesOf a)), .d (.str (SX.S l3)), .o D, .d (.int i), .d (.str (SX.S [sc]))] => step _ (by rw [List.length_append, n3]; rfl) fun d hd => ?_) (fun D4 n4 t4 => ?_)
  · have hd := List.mem_append.mp hd
    rcases hd with hd | hd
    · exact t3 d hd
    simp only [List.map_cons, List.map_nil, as_d, as_l, List.mem_cons, List.not_mem_nil, or_false] at hd
    rcases hd with rfl | rfl
    · exact tx_S (by first | omega | (simp only [List.length_append, List.length_singleton, List.length_cons, List.length_nil]; omega))
    · exact tx_str (by omega)
  rw [hT]
  refine seqT fun T hT => ?_
  walk_at "ds"
  have r3 := rl ("columns " : Str) ("columns 0" : Str) (by decide +kernel) (by decide +kernel)
  refine ⟨_, rfl, rg _ (by decide +kernel), ?_⟩
  generalize Txt.replace (SX.S a) ("columns " : Str) ("columns 0" : Str) = g3 at r3 ⊢
  refine ⟨rfl, ?_⟩
  obtain ⟨l0, ls, el⟩ : ∃ l ls, linesOf a = l :: ls := by
    cases q : linesOf a with
    | nil => exact absurd q lines_ne
    | cons l ls => exact ⟨l, ls, rfl⟩
  have hl0 : l0.length ≤ a.length := lle l0 (by rw [el]; simp)
  refine lstix (z := .str (SX.S l0)) (atI_of (by decide) (by rw [el]; rfl)) ?_
  walk_at "ds"
  refine ⟨by rw [sLen]; omega, _, rfl, za, ?_⟩
  have eD : Txt.slice (SX.S a) (some (((SX.S l0).length : Int) + 1)) none = SX.S (a.drop (((SX.S l0).length : Int) + 1).toNat) := SX.slice_from (by omega)
  rw [eD]
  have lD : (a.drop (((SX.S l0).length : Int) + 1).toNat).length ≤ 330 := by rw [List.length_drop]; omega
  generalize a.drop (((SX.S l0).length : Int) + 1).toNat = u at lD ⊢
  refine ⟨⟨rfl, by show 5 ≤ 1000; decide⟩, rfl, by rw [n4]; show 14 + 5 < 100000; decide, ?_⟩
  refine (fun step : ∀ D : List PyData, D.length = 19 → (∀ d ∈ D, TxOk d) → T [.o us, .d (.str (SX.S a)), .o (strL (linesOf a)), .d (.str (SX.S l3)), .o D, .d (.int i), .d (.str (SX.S [sc]))] => step _ (by rw [List.length_append, n4]; rfl) fun d hd => ?_) (fun D5 n5 t5 => ?_)
  · have hd := List.mem_append.mp hd
    rcases hd with hd | hd
    · exact t4 d hd
    obtain ⟨x, hx, rfl⟩ := List.mem_map.mp hd
    simp only [List.mem_cons, List.not_mem_nil, or_false] at hx
    rcases hx with rfl | rfl | rfl | rfl | rfl
    · exact tx_str (by omega)
    · exact tx_S (by omega)
    · exact tx_odd rfl (fun z e => by cases e)
    · exact tx_odd rfl (fun z e => by cases e)
    · exact tx_odd rfl (fun z e => by cases e)
  rw [hT]
  walk_at "ds"
  refine ⟨⟨rfl, by show 7 ≤ 1000; decide⟩, rfl, by rw [n5]; show 19 + 7 < 100000; decide, ?_⟩
  refine h us _ hu ?_ fun d hd => ?_
  · rw [List.length_append, n5]
    show 19 + 7 ≤ 30
    decide
  · have hd := List.mem_append.mp hd
    rcases hd with hd | hd
    · exact t5 d hd
    obtain ⟨x, hx, rfl⟩ := List.mem_map.mp hd
    simp only [List.mem_cons, List.not_mem_nil, or_false] at hx
    rcases hx with rfl | rfl | rfl | rfl | rfl | rfl | rfl
    · exact tx_str (by decide +kernel)
    · exact tx_str (by decide +kernel)
    · exact tx_str (by decide +kernel)
    · exact tx_str (by decide +kernel)
    · exact tx_str (by decide +kernel)
    · exact tx_str (by decide +kernel)
    · exact tx_odd rfl (fun z e => by cases e)
theorem hS_law_lines : ∀ δ P, S_law_lines δ P → ArgOk 1 δ ∧ wb_law_lines (endsOf δ P) (δ ++ List.replicate (5 - 1) Sl.un) := by
  rintro δ P ⟨m, rl, rfl, m5, hr, h⟩
  refine ⟨argD [rulesD rl], ?_⟩
  unfold wb_law_lines
  have few := hr.few
  refine seqT fun T hT => ?_
  walk_at "ds"
  refine ⟨⟨rfl, by decide⟩, ?_⟩
  rw [hT]
  refine seqT fun T hT => ?_
  unfold rulesD
  walk_at "ds"
  refine loopT ruleD rl (fun i δ => ∃ y2 y3, δ = [.d (.tuple (rl.map ruleD)), .o (strL ((rl.take i).map ruleW)), y2, y3, .un]) ⟨_, _, rfl⟩ ?_ ?_
  · rintro i r δ C hx ⟨y2, y3, rfl⟩ hC
    have hmem : r ∈ rl := List.mem_of_getElem? hx
    have ro := hr.all r hmem
    have etake : rl.take (i + 1) = rl.take i ++ [r] := by rw [List.take_add_one, hx]; rfl
    have hn : ∀ c : Int, 0 ≤ c → c < m → (numL c.toNat).length ≤ 4 := fun c h0 h1 => numL_5 h0 (by omega)
    obtain ⟨g, t⟩ := r
    have g5 : g.length ≤ 5 := ro.cols.few
    have t0 : 0 ≤ t := ro.lo
    have t1 : t < m := ro.hi
    have ht := hn t t0 t1
    unfold ruleD iT
    walk_at "ds"
    refine ⟨rfl, ?_⟩
    refine ⟨⟨by rw [List.length_map]; omega, rfl⟩, ?_⟩
    refine go_mapT PyData.int (fun c => PyData.str (SX.S (numL c.toNat ++ [32]))) g (fun c hc C C' h2 => ?_) ?_
    · have c1 := (ro.cols.inn c hc).1
      have c2 := (ro.cols.inn c hc).2
      have hl := hn c c1 c2
      walk_at "ds"
      refine ifT rfl ?_
      refine ⟨small_log c1 (by omega), ?_⟩
      rw [str_nat c1, lit_sp]
      refine catS (by rw [List.length_singleton]; omega) ?_
      exact ⟨rfl, h2⟩
    have lens : ((g.map fun c => numL c.toNat ++ [32]).map List.length).sum ≤ 25 := by
      have h2 := sumL (k := 5) (ys := g.map fun c => numL c.toNat ++ [32]) fun y hy => by
        obtain ⟨c, hc, rfl⟩ := List.mem_map.mp hy
        have := hn c (ro.cols.inn c hc).1 (ro.cols.inn c hc).2
        rw [List.length_append, List.length_singleton]; omega
      rw [List.length_map] at h2
      omega
    have e : (g.map fun c => PyData.str (SX.S (numL c.toNat ++ [32]))) = strL (g.map fun c => numL c.toNat ++ [32]) := by unfold strL; rw [List.map_map]; rfl
    walk_at "ds"
    refine ⟨(g.map fun c => numL c.toNat ++ [32]).map SX.S, by rw [strL_map, ← e], ?_, ?_⟩
    · rw [lit_no]
      exact joinZ (by rw [List.length_nil, Nat.mul_zero]; omega)
    have egt : ("> " : Str) = SX.S [62, 32] := by decide +kernel
    rw [lit_no, SX.join_S, joinL_nil, egt]
    have fl : (g.map fun c => numL c.toNat ++ [32]).flatten.length ≤ 25 := by rw [List.length_flatten]; exact lens
    refine catS (by show _ + 2 ≤ 1000; omega) ?_
    walk_at "ds"
    refine ⟨small_log t0 (by omega), ?_⟩
    rw [str_nat t0]
    refine catS (by rw [List.length_append]; show _ + 2 + _ ≤ 1000; omega) ?_
    walk_at "ds"
    have ew : (g.map fun c => numL c.toNat ++ [32]).flatten ++ [62, 32] ++ numL t.toNat = ruleW (g, t) := by
      rw [ruleW_eq, List.append_assoc]
    refine ⟨rfl, by unfold strL; rw [List.length_map, List.length_map, List.length_take]; omega, hC _ ⟨.d (.tuple (g.map PyData.int)), .d (.int t), ?_⟩⟩
    rw [ew, etake, List.map_append]
    unfold strL
    rw [List.map_append]
    rfl
  · rintro δ ⟨y2, y3, rfl⟩
    rw [List.take_length]
    dsimp only
    rw [hT]
    walk_at "ds"
    exact ⟨by decide, h⟩
end B
namespace B
open PySem PySem.Spec PyProof.Rows L2 Dw TL
local macro_rules | `(tactic| walk_at "ds") => `(tactic| try dsimp only [wSplit, wJoinT, wEndsW, wUpper, wSliceS, wReplC, wSeqS, wTupE, rLenSD, rIntSD, rInSg, rMulSD, rStrID, wCallG, gOwn, gNo, wReprO, wMakeF, wFldDc, wFldDh, wNmD, wPropD, wJoin, wJs, wFmt, wRevT, wCallX0, wCall0, wE0, wNevS, wLmul, wCntL, wCntL1, wIsE, wStrE, wForget, wBrw, wCallL, endL, wRet, wRetN, sPu, wThenX, wIfX, wRetX, wDropX, wSetX, wCallX, wCallP, uPu, wPu, uConsX, wRaise, wDc, wDcT, wDZ, wD1, wGet1, wGet2, wGetT, wThen, wIfS, wIf, wNotT, Dw.wTru, wB, w2, wV, wC, wCons, wNil, wCall, wCallO, wCallO1, endO, wCB, wLc, wSeq, wYes, wNext, wNever, wDrop, wSet, wAsg, wPair, wFor, wTup, wLst, wAndV, wOrV, wNotV, wNeg, wAndT, wOrT, wIsi, wChain, wSlice, wPart, wNo, wZip, wEnum, wRng1, wRng2, wLc2, wApp, wApp1, wPop, wPop1, wExt, wExt1, wSetI, wSetI1, wSetD, wDat, wTupRg, wLstRg, wTupS, wCBX, wCallE, wCallPE, rngL, wIdx, wIdx1, wExtL, wExtL1, wLenM, wNotInM, wGetM, wPutM, wPutM1, wSetK, wTri, wForget, rCatTD, rCatLD, intsR, Option.map_some, bN, bTup, bCons, bNil, as_d, as_l, as_b, noB_d, noB_l, still_d, still_l, still_b, put_d, put_l, tru_bool, tru_tup, tru_lst, isT_tup, isI_int, isB_int, stillA_nil, stillA_cons, map0, map1, map2, map3, len_l, len_t, tup_l, tup_t, lst_l, lst_t, max_i, min_i, List.all_cons, List.all_nil, Bool.and_self, Bool.and_true, Bool.not_true, Bool.not_false, List.getElem?_cons_zero, List.getElem?_cons_succ, List.cons_append, List.nil_append, List.append_nil, List.reduceReplicate, Nat.reduceSub, Nat.sub_self, rI1, rI2, rAddD, rSubD, rMulD, rDivD, rModD, rPowD, rLtD, rLeD, rGtD, rGeD, List.set_cons_zero, List.set_cons_succ, List.set_nil, endsOf, outD, wipeD])
def wb_law_parsed : WS := (wThen (wSet 1 (wCall S_law_headed (wCons (wV 0) wNil)))
      (wThen (wIfS (wOrT (wB (w2 (rIsT false) (wV 1) (wC .none))) (wB (w2 rGtD (wCB rLenD (wCons (w2 rIxD (wV 1) (wC (.int 1))) wNil)) (wC (.int 8))))) (wRet (wC .none)) wNext)
      (wThen (wSet 2 (wLst wNil))
      (wThen (wFor (wSeq (w2 rIxD (wV 1) (wC (.int 1)))) (bN 3) (wThen (wSet 4 (wSplit (wV 3) " "))
      (wThen (wSetD 5 (wLc (wSeq (w2 rCatLD (wSlice (wV 4) wNo (wPart (wNeg (wC (.int 2))))) (wSlice (wV 4) (wPart (wNeg (wC (.int 1)))) wNo))) (bN 6) wYes (wCall S_law_number (wCons (wV 6) wNil)) [6]))
      (wThen (wIfS (wOrT (wB (w2 rLtD (wCB rLenD (wCons (wV 4) wNil)) (wC (.int 2)))) (wB (w2 rNeT (w2 rIxD (wV 4) (wNeg (wC (.int 2)))) (wC (.str ">"))))) (wRet (wC .none)) wNext)
      (wThen (wIfS (wB (w2 rNeT (wLc (wSeq (wV 5)) (bN 7) (wNotT (wB (wChain rLeD rLtD (wC (.int 0)) (wV 7) (w2 rIxD (wV 1) (wC (.int 0)))))) (wC (.int 1)) [7]) (wLst wNil))) (wRet (wC .none)) wNext)
      (wThen (wIfS (wOrT (wB (w2 (rInT false) (w2 rIxD (wV 5) (wNeg (wC (.int 1)))) (wSlice (wV 5) wNo (wPart (wNeg (wC (.int 1))))))) (wB (w2 rNeT (wSortSetF (wSlice (wV 5) wNo (wPart (wNeg (wC (.int 1)))))) (wSlice (wV 5) wNo (wPart (wNeg (wC (.int 1)))))))) (wRet (wC .none)) wNext)
      (wDrop (wApp 2 (wTup (wCons (wCB rTupleD (wCons (wSlice (wV 5) wNo (wPart (wNeg (wC (.int 1))))) wNil)) (wCons (w2 rIxD (wV 5) (wNeg (wC (.int 1)))) wNil)))))))))))
      (wRet (wTup (wCons (w2 rIxD (wV 1) (wC (.int 0))) (wCons (wCB rTupleD (wCons (wV 2) wNil)) wNil))))))))
theorem cut_init (xs : List PyData) (t : PyData) : Dw.cutD (xs ++ [t]) none (some (-1)) = xs := by
  unfold Dw.cutD
  rw [HT.sIx_none, List.drop_zero, Nat.sub_zero]
  have : HT.sIx (xs ++ [t]).length (xs ++ [t]).length (some (-1)) = xs.length := by
    show (if (-1 : Int) < 0 then (-1 + (((xs ++ [t]).length : Nat) : Int)).toNat else min (-1 : Int).toNat (xs ++ [t]).length) = _
    rw [if_pos (by decide), List.length_append]
    simp only [List.length_cons, List.length_nil]; omega
  rw [this, List.take_left]
theorem cut_last (xs : List PyData) (t : PyData) : Dw.cutD (xs ++ [t]) (some (-1)) none = [t] := by
  unfold Dw.cutD
  rw [HT.sIx_none]
  have : HT.sIx (xs ++ [t]).length 0 (some (-1)) = xs.length := by
    show (if (-1 : Int) < 0 then (-1 + (((xs ++ [t]).length : Nat) : Int)).toNat else min (-1 : Int).toNat (xs ++ [t]).length) = _
    rw [if_pos (by decide), List.length_append]
    simp only [List.length_cons, List.length_nil]; omega
  rw [this, List.drop_left, List.length_append]
  simp
theorem atI_last (xs : List PyData) (t : PyData) : atI (xs ++ [t]) (-1) = some t := by
  unfold atI ixN
  rw [if_neg (by decide), List.length_append, if_pos (by simp only [List.length_cons, List.length_nil]; omega)]
  show (xs ++ [t])[(-1 + ((xs.length + 1 : Nat) : Int)).toNat]? = _
  have : (-1 + ((xs.length + 1 : Nat) : Int)).toNat = xs.length := by omega
  rw [this, List.getElem?_append_right (by omega), Nat.sub_self]; rfl
theorem cut_one2 (w : PyData) : Dw.cutD [w] none (some (-2)) = [] := by
  unfold Dw.cutD
  rw [HT.sIx_none, List.drop_zero, Nat.sub_zero]
  rfl
theorem shaped_ints (g : List Int) : SeqAt.shaped (.list (g.map PyData.int)) = true := shaped_flat fun x hx => by
  obtain ⟨i, _, rfl⟩ := List.mem_map.mp hx
  exact ⟨i, rfl⟩
theorem flat_intsR (g : List Int) : (g.map PyData.int).all flat = true := by
  rw [List.all_eq_true]
  intro x hx
  obtain ⟨i, _, rfl⟩ := List.mem_map.mp hx
  rfl
theorem hS_law_parsed : ∀ δ P, S_law_parsed δ P → ArgOk 1 δ ∧ wb_law_parsed (endsOf δ P) (δ ++ List.replicate (8 - 1) Sl.un) := by
  rintro δ P ⟨d, rfl, ht, h⟩
  refine ⟨argD [d], ?_⟩
  unfold wb_law_parsed
  have z3 : sizeLine ≥ 100000 := by rw [sizeLine_eq]; decide
  refine seqT fun T hT => ?_
  walk_at "ds"
  refine ⟨rfl, d, rfl, ht, ?_⟩
  rcases headD_cases ht with ⟨e, ep⟩ | ⟨m, ls, e, m1, m5, hl, hll, ep⟩
  · rw [e]
    rw [ep] at h
    walk_at "ds"
    subst hT
    refine seqT fun T hT => ?_
    walk_at "ds"
    refine is_ok (k := true) rfl ?_
    exact ifT rfl (ifT rfl h)
  rw [e]
  walk_at "ds"
  subst hT
  refine seqT fun T hT => ?_
  walk_at "ds"
  refine is_ok (k := false) rfl ?_
  refine ifF rfl ?_
  refine tupix (z := .list (strL ls)) rfl ?_
  walk_at "ds"
  have hsl : (strL ls).length = ls.length := by unfold strL; rw [List.length_map]
  rw [hsl]
  rw [ep, rulesB_rulesA] at h
  by_cases h8 : ls.length ≤ 8
  case neg =>
    rw [decide_eq_false h8, Bool.false_and] at h
    exact ifT (decide_eq_true (by omega)) h
  rw [decide_eq_true h8, Bool.true_and] at h
  refine ifF (decide_eq_false (by omega)) ?_
  rw [hT]
  refine seqT fun T hT => ?_
  walk_at "ds"
  refine ⟨⟨rfl, by decide⟩, ?_⟩
  rw [hT]
  refine seqT fun T hT => ?_
  walk_at "ds"
  refine tupix (z := .list (strL ls)) rfl ?_
  walk_at "ds"
  refine loopT (fun l => PyData.str (SX.S l)) ls (fun i δ => ∃ y3 y4 y5, (ls.take i).all (fun l => okR m (readO l)) = true ∧ δ = [.d d, .d (.tuple [.int m, .list (strL ls)]), .o ((ls.take i).map readR), y3, y4, y5, .un, .un]) ⟨_, _, _, rfl, rfl⟩ ?_ ?_
  · rintro i l δ C hx ⟨y3, y4, y5, ga, rfl⟩ hC
    have hlt : i < ls.length := (List.getElem?_eq_some_iff.mp hx).1
    have hmem : l ∈ ls := List.mem_of_getElem? hx
    have hle := hll l hmem
    have etake : ls.take (i + 1) = ls.take i ++ [l] := by
      rw [List.take_add_one, hx]; rfl
    have bad : okR m (readO l) = false → P (.d .none) [Sl.d d] := fun hb => by
      have : ls.all (fun l => okR m (readO l)) = false := by
        rw [Bool.eq_false_iff]
        intro z
        rw [List.all_eq_true.mp z l hmem] at hb
        cases hb
      rw [this] at h
      exact h
    have ew : (Txt.split (SX.S l) (" " : Str)).map PyData.str = strL (wordsOf l) := by
      rw [lit_sp, splitS (by decide)]; rfl
    have hwl := words_len (l := l)
    have wl : ∀ y ∈ wordsOf l, y.length ≤ l.length := fun y hy => word_len hy
    have hws : (strL (wordsOf l)).length = (wordsOf l).length := by unfold strL; rw [List.length_map]
    refine seqT fun T hT => ?_
    walk_at "ds"
    refine ⟨SX.S l, rfl, by rw [sLen]; omega, ?_⟩
    rw [ew]
    rw [hT]
    refine seqT fun T hT => ?_
    by_cases q2 : 2 ≤ (wordsOf l).length
    case neg =>
      obtain ⟨w, ex⟩ : ∃ w, wordsOf l = [w] := by
        match q : wordsOf l, q2 with
        | [], _ => exact absurd q words_ne
        | [w], _ => exact ⟨w, rfl⟩
        | _ :: _ :: _, q2 => exact absurd (by simp) q2
      have hb : okR m (readO l) = false := by rw [readO_few (by omega)]; rfl
      rw [ex]
      have esx : strL [w] = [.str (SX.S w)] := rfl
      rw [esx]
      walk_at "ds"
      have c1 : Dw.cutD [PyData.str (SX.S w)] (some (-1)) none = [.str (SX.S w)] := cut_last [] _
      rw [cut_one2, c1]
      refine ⟨rfl, rfl, by show 0 + 1 < 100000; decide, ⟨by show 1 ≤ 100000; decide, rfl⟩, ?_⟩
      show wGo _ _ _ _ _ ([w].map fun l => PyData.str (SX.S l)) _ _
      refine go_mapT (fun l => PyData.str (SX.S l)) (fun l => .int (readN l)) [w] (fun c hc C' C'' h2 => ?_) ?_
      · walk_at "ds"
        refine ifT rfl ?_
        exact ⟨rfl, c, rfl, by have := wl c (by rw [ex]; exact hc); omega, rfl, h2⟩
      walk_at "ds"
      rw [hT]
      refine seqT fun T hT => ?_
      walk_at "ds"
      refine ⟨rfl, ?_⟩
      refine ifT (by show decide ((1 : Int) < 2) = true; decide) ?_
      exact ifT rfl (bad hb)
    obtain ⟨g, a, t, ex⟩ := words_two q2
    have er := readO_of ex
    rw [er] at bad
    have eqr : readR l = ruleO (if a = [62] then some (g.map readN, readN t) else none) := by unfold readR; rw [er]
    rw [ex] at wl hwl hws ⊢
    rw [List.length_append] at hwl
    have esx : strL (g ++ [a, t]) = strL g ++ [.str (SX.S a), .str (SX.S t)] := by unfold strL; rw [List.map_append]; rfl
    have ga2 : atI (strL (g ++ [a, t])) (-2) = some (.str (SX.S a)) := by
      rw [esx]
      exact atI_back2 _ _ _
    have gc2 : Dw.cutD (strL (g ++ [a, t])) none (some (-2)) = strL g := by
      rw [esx]
      exact cut_back2 _ _ _
    have gc1 : Dw.cutD (strL (g ++ [a, t])) (some (-1)) none = [.str (SX.S t)] := by
      have : strL g ++ [PyData.str (SX.S a), .str (SX.S t)] = (strL g ++ [.str (SX.S a)]) ++ [.str (SX.S t)] := by simp
      rw [esx, this]
      exact cut_last _ _
    have hgl : (strL g).length = g.length := by unfold strL; rw [List.length_map]
    walk_at "ds"
    rw [gc2, gc1]
    refine ⟨rfl, rfl, by rw [hgl]; show g.length + 1 < 100000; omega, ⟨by rw [List.length_append, hgl]; show g.length + 1 ≤ 100000; omega, rfl⟩, ?_⟩
    have egt1 : strL g ++ [PyData.str (SX.S t)] = (g ++ [t]).map fun l => PyData.str (SX.S l) := by unfold strL; rw [List.map_append]; rfl
    rw [egt1]
    refine go_mapT (fun l => PyData.str (SX.S l)) (fun l => .int (readN l)) (g ++ [t]) (fun c hc C' C'' h2 => ?_) ?_
    · walk_at "ds"
      refine ifT rfl ?_
      refine ⟨rfl, c, rfl, ?_, rfl, h2⟩
      have : c ∈ g ++ [a, t] := by
        rcases List.mem_append.mp hc with hc | hc
        · exact List.mem_append_left _ hc
        · rw [List.mem_singleton.mp hc]; simp
      have := wl c this
      omega
    have en : ((g ++ [t]).map fun l => PyData.int (readN l)) = (g.map readN).map PyData.int ++ [.int (readN t)] := by rw [List.map_append, List.map_map]; rfl
    have hgn : (g.map readN).length = g.length := List.length_map _
    walk_at "ds"
    rw [en]
    generalize g.map readN = gi at bad eqr hgn er ⊢
    generalize readN t = ti at bad eqr er ⊢
    rw [hT]
    refine seqT fun T hT => ?_
    walk_at "ds"
    refine ⟨rfl, ?_⟩
    rw [hws]
    refine ifF (decide_eq_false (by rw [List.length_append]; simp only [List.length_cons, List.length_nil]; omega)) ?_
    refine ⟨rfl, lstix ga2 ?_⟩
    walk_at "ds"
    have egt : (">" : Str) = SX.S [62] := by decide +kernel
    rw [egt]
    refine ne_ok (k := decide (a = [62])) rfl (sEq _ _) ?_
    walk_at "ds"
    by_cases qa : a = [62]
    case neg =>
      rw [if_neg qa] at bad
      exact ifT (by rw [decide_eq_false qa]; rfl) (bad rfl)
    rw [if_pos qa] at bad eqr
    refine ifF (by rw [decide_eq_true qa]; rfl) ?_
    rw [hT]
    refine seqT fun T hT => ?_
    walk_at "ds"
    have en2 : gi.map PyData.int ++ [.int ti] = (gi ++ [ti]).map PyData.int := by rw [List.map_append]; rfl
    rw [en2]
    refine ⟨⟨by rw [List.length_map, List.length_append, hgn]; show g.length + 1 ≤ 100000; omega, rfl⟩, ?_⟩
    refine go_filT PyData.int (fun k => !inR m k) (fun _ => .int 1) (gi ++ [ti]) [] (fun k hk C' C'' h2 h3 => ?_) ?_
    · walk_at "ds"
      have go : ∀ b : Bool, b = inR m k → (if (!b) = true then noB (Rv.d (.int 1)) = true ∧ C' (.int 1) [Sl.d d, Sl.d (PyData.tuple [PyData.int m, PyData.list (strL ls)]), Sl.o (List.map readR (List.take i ls)), Sl.d (PyData.str (SX.S l)), Sl.o (strL (g ++ [a, t])), Sl.d (PyData.list (List.map PyData.int (gi ++ [ti]))), Sl.un, Sl.un] else C'' [Sl.d d, Sl.d (PyData.tuple [PyData.int m, PyData.list (strL ls)]), Sl.o (List.map readR (List.take i ls)), Sl.d (PyData.str (SX.S l)), Sl.o (strL (g ++ [a, t])), Sl.d (PyData.list (List.map PyData.int (gi ++ [ti]))), Sl.un, Sl.un]) := by
        intro b hb
        subst hb
        cases q : inR m k with
        | true => exact ifF rfl (h3 (by rw [q]; rfl))
        | false => exact ifT rfl ⟨rfl, h2 (by rw [q]; rfl)⟩
      by_cases k0 : 0 ≤ k
      · refine ifT (decide_eq_true k0) ?_
        refine tupix (z := .int m) rfl ?_
        walk_at "ds"
        refine go _ ?_
        unfold inR
        rw [decide_eq_true k0, Bool.true_and]
      · refine ifF (decide_eq_false k0) ?_
        refine go _ ?_
        unfold inR
        rw [decide_eq_false k0, Bool.false_and]
    walk_at "ds"
    have ex2 : ((gi ++ [ti]).filter fun k => !inR m k).isEmpty = (gi.all (inR m) && inR m ti) := by
      rw [Bool.eq_iff_iff, List.isEmpty_iff, List.filter_eq_nil_iff, Bool.and_eq_true, List.all_eq_true]
      constructor
      · intro z
        exact ⟨fun x hx => by have := z x (List.mem_append_left _ hx); simpa using this, by have := z ti (by simp); simpa using this⟩
      · rintro ⟨z1, z2⟩ x hx
        rcases List.mem_append.mp hx with hx | hx
        · rw [z1 x hx]; simp
        · rw [List.mem_singleton.mp hx, z2]; simp
    refine ⟨⟨rfl, by decide⟩, neg_list (k := gi.all (inR m) && inR m ti) ⟨_, List.map_const' ..⟩ (by rw [List.isEmpty_map, ex2]) ?_⟩
    walk_at "ds"
    have eok : okR m (some (gi, ti)) = ((gi.all (inR m) && inR m ti) && (!decide (ti ∈ gi) && decide (gi.Pairwise (· < ·)))) := rfl
    cases qr : (gi.all (inR m) && inR m ti) with
    | false => exact ifT rfl (bad (by rw [eok, qr]; rfl))
    | true =>
      refine ifF rfl ?_
      rw [qr, Bool.true_and] at eok
      rw [hT]
      refine seqT fun T hT => ?_
      rw [← en2]
      walk_at "ds"
      refine lstix (atI_last _ _) ?_
      walk_at "ds"
      rw [cut_init]
      refine ⟨⟨rfl, flat_intsR gi⟩, ?_⟩
      rw [if_neg Bool.false_ne_true, in_ints]
      walk_at "ds"
      cases qi : decide (ti ∈ gi) with
      | true => exact ifT rfl (ifT rfl (bad (by rw [eok, qi]; rfl)))
      | false =>
        refine ifF rfl ?_
        rw [qi] at eok
        have hin : ∀ k ∈ gi, 0 ≤ k ∧ k < 5 := fun k hk => by
          rw [Bool.and_eq_true, List.all_eq_true] at qr
          have := qr.1 k hk
          unfold inR at this
          rw [Bool.and_eq_true, decide_eq_true_eq, decide_eq_true_eq] at this
          omega
        unfold wSortSetF
        walk_at "ds"
        rw [cut_init]
        refine ⟨gi, (List.range 5).map (fun i : Nat => (i : Int)), rfl, by omega, fun k hk => ?_, by decide, fun ms asc hms => ?_⟩
        · have := hin k hk
          exact List.mem_map.mpr ⟨k.toNat, List.mem_range.mpr (by omega), by omega⟩
        walk_at "ds"
        refine ne_ok (k := decide (gi.Pairwise (· < ·))) ?_ ?_ ?_
        · show (SeqAt.shaped _ && SeqAt.shaped _) = true
          rw [shaped_ints, shaped_ints]; rfl
        · rw [eqv_intL]
          by_cases q : gi.Pairwise (· < ·)
          · rw [decide_eq_true q]
            exact decide_eq_true (asc_eq ms gi asc q hms)
          · rw [decide_eq_false q]
            exact decide_eq_false fun z => q (z ▸ asc)
        walk_at "ds"
        cases qp : decide (gi.Pairwise (· < ·)) with
        | false => exact ifT rfl (bad (by rw [eok, qp]; rfl))
        | true =>
          refine ifF rfl ?_
          rw [qp] at eok
          rw [hT]
          walk_at "ds"
          rw [cut_init]
          refine lstix (atI_last _ _) ?_
          refine ⟨⟨rfl, by show 2 ≤ 1000; decide⟩, ?_⟩
          walk_at "ds"
          refine ⟨rfl, by rw [List.length_map, List.length_take]; omega, hC _ ⟨.d (.str (SX.S l)), .o (strL (g ++ [a, t])), .d (.list (gi.map PyData.int ++ [.int ti])), ?_, ?_⟩⟩
          · rw [etake, List.all_append, ga, List.all_cons, List.all_nil, er, if_pos qa, eok]; rfl
          · rw [etake, List.map_append, List.map_cons, eqr]; rfl
  · rintro δ ⟨y3, y4, y5, ga, rfl⟩
    rw [List.take_length] at ga ⊢
    rw [ga] at h
    rw [hT]
    walk_at "ds"
    refine tupix (z := .int m) rfl ?_
    walk_at "ds"
    refine ⟨rfl, ⟨rfl, by show 2 ≤ 1000; decide⟩, ?_⟩
    exact h
end B
namespace B
open PySem PySem.Spec PyProof.Rows L2 Dw TL
local macro_rules | `(tactic| walk_at "ds") => `(tactic| try dsimp only [wSplit, wJoinT, wEndsW, wUpper, wSliceS, wReplC, wSeqS, wTupE, rLenSD, rIntSD, rInSg, rMulSD, rStrID, wCallG, gOwn, gNo, wReprO, wMakeF, wFldDc, wFldDh, wNmD, wPropD, wJoin, wJs, wFmt, wRevT, wCallX0, wCall0, wE0, wNevS, wLmul, wCntL, wCntL1, wIsE, wStrE, wForget, wBrw, wCallL, endL, wRet, wRetN, sPu, wThenX, wIfX, wRetX, wDropX, wSetX, wCallX, wCallP, uPu, wPu, uConsX, wRaise, wDc, wDcT, wDZ, wD1, wGet1, wGet2, wGetT, wThen, wIfS, wIf, wNotT, Dw.wTru, wB, w2, wV, wC, wCons, wNil, wCall, wCallO, wCallO1, endO, wCB, wLc, wSeq, wYes, wNext, wNever, wDrop, wSet, wAsg, wPair, wFor, wTup, wLst, wAndV, wOrV, wNotV, wNeg, wAndT, wOrT, wIsi, wChain, wSlice, wPart, wNo, wZip, wEnum, wRng1, wRng2, wLc2, wApp, wApp1, wPop, wPop1, wExt, wExt1, wSetI, wSetI1, wSetD, wDat, wTupRg, wLstRg, wTupS, wCBX, wCallE, wCallPE, rngL, wIdx, wIdx1, wExtL, wExtL1, wLenM, wNotInM, wGetM, wPutM, wPutM1, wSetK, wTri, wForget, rCatTD, rCatLD, intsR, Option.map_some, bN, bTup, bCons, bNil, as_d, as_l, as_b, noB_d, noB_l, still_d, still_l, still_b, put_d, put_l, tru_bool, tru_tup, tru_lst, isT_tup, isI_int, isB_int, stillA_nil, stillA_cons, map0, map1, map2, map3, len_l, len_t, tup_l, tup_t, lst_l, lst_t, max_i, min_i, List.all_cons, List.all_nil, Bool.and_self, Bool.and_true, Bool.not_true, Bool.not_false, List.getElem?_cons_zero, List.getElem?_cons_succ, List.cons_append, List.nil_append, List.append_nil, List.reduceReplicate, Nat.reduceSub, Nat.sub_self, rI1, rI2, rAddD, rSubD, rMulD, rDivD, rModD, rPowD, rLtD, rLeD, rGtD, rGeD, List.set_cons_zero, List.set_cons_succ, List.set_nil, endsOf, outD, wipeD])
def S_law_right : WE := fun δ P => ∃ xs n, δ = [.o xs] ∧ Pen n xs ∧ n ≤ 800000 ∧ ∀ ys, Pen (n + 120) ys → P (.d (.bool true)) [.o ys]
def S_law : WE := fun δ P => ∃ ns : List Int, δ = [.d (.list (ns.map PyData.int))] ∧ ns.length ≤ 63 ∧ P (.d (.bool true)) δ
def wb_law_right : WS := (wThen (wAsg (wCallO S_law_case 0 wNil) (bTup 2 (bCons (bN 6) (bCons (bN 7) bNil))))
      (wThen (wSet 1 (wCall S_law_text (wCons (wV 6) (wCons (wCall S_law_lines (wCons (wV 7) wNil)) wNil))))
      (wThen (wSetD 2 (wLst (wCons (wCallX0 S_rules_textX (wCons (wV 6) (wCons (wV 7) wNil))) (wCons (wCallX0 S_rules_textX (wCons (wV 6) (wCons (wV 7) wNil))) (wCons (wSaid sayN sayW (wCallX S_read_rulesX (uPu (wCons (wV 1) wNil)))) wNil)))))
      (wThen (wIfS (wNotT (wTru (wCall S_law_same (wCons (wV 2) (wCons (wLst (wCons (wV 1) (wCons (wV 1) (wCons (wCB rReprD (wCons (wTup (wCons (wV 6) (wCons (wV 7) wNil))) wNil)) wNil)))) wNil))))) (wRet (wC (.bool false))) wNext)
      (wThen (wSetD 3 (w2 rCatLD (w2 rCatLD (wLst (wCons (wV 1) wNil)) (wCallO S_law_near 0 (wCons (wV 1) wNil))) (wCallO S_law_near 0 (wCons (wV 1) wNil))))
      (wThen (wSetD 3 (w2 rCatLD (wV 3) (wLst (wCons (w2 rCatSD (wV 1) (w2 rMulSD (wC (.str "> 0
")) (w2 rSubD (wC (.int 9)) (wCB rLenD (wCons (wV 7) wNil))))) (wCons (w2 rCatSD (wV 1) (wC (.str "0 > 0
"))) (wCons (w2 rCatSD (wV 1) (wC (.str ">0
"))) (wCons (wV 7) wNil)))))))
      (wThen (wFor (wSeq (w2 rCatLD (wV 3) (wLst (wCons (wMakeF S_i_SheetN (wCons (wC (.int 1)) wNil)) (wCons (wMakeF S_i_SheetN (wCons (wC (.int 2)) (wCons (wTup (wCons (wTup (wCons (wC (.int 0)) wNil)) (wCons (wC (.int 1)) wNil))) wNil))) (wCons (wTup (wCons (wMakeF S_i_SheetN (wCons (wC (.int 1)) wNil)) wNil)) wNil)))))) (bN 4) (wThen (wSet 8 (wCall S_law_parsed (wCons (wV 4) wNil)))
      (wIfS (wB (w2 rNeT (wSaid sayN sayW (wCallX S_read_rulesX (uPu (wCons (wV 4) wNil)))) (wIf (wB (w2 (rIsT false) (wV 8) (wC .none))) (wC (.str "! NoText")) (wCB rReprD (wCons (wV 8) wNil))))) (wRet (wC (.bool false))) wNext)))
      (wThen (wFor (wSeq (wCall S_law_no_rules (wCons (wV 6) wNil))) (bN 5) (wIfS (wB (w2 rNeT (wSaid sayN sayW (wCallX S_rules_textX (uPu (wCons (wV 6) (wCons (wV 5) wNil))))) (wC (.str "! NoRules")))) (wRet (wC (.bool false))) wNext))
      (wRet (wC (.bool true)))))))))))
def wb_law : WS := (wThen (wFor (wSeq (wCall0 S_law_no_many)) (bN 1) (wIfS (wB (w2 rNeT (wSaid sayN sayW (wCallX S_rules_textX (uPu (wCons (wV 1) (wCons (wC .none) wNil))))) (wC (.str "! NoMany")))) (wRet (wC (.bool false))) wNext))
      (wThen (wFor (wRng1 (wCons (wCB rMax2D (wCons (wC (.int 1)) (wCons (wCB rMin2D (wCons (wCB rLenD (wCons (wV 0) wNil)) (wCons (wC (.int 3)) wNil))) wNil))) wNil)) (bN 2) (wThen (wSet 3 (wCall S_law_pen (wCons (wCall S_law_cell_at (wCons (wV 0) (wCons (wV 2) wNil))) wNil)))
      (wFor (wRng1 (wCons (wC (.int 3)) wNil)) (bN 4) (wIfS (wNotT (wTru (wCallG S_law_right (gOwn 3 gNo)))) (wRet (wC (.bool false))) wNext))))
      (wRet (wC (.bool true)))))
local macro_rules | `(tactic| walk_at "sd") => `(tactic| (walk_at "ds"; try dsimp only [wSaid, SayAt, stayD, List.map_cons, List.map_nil]; walk_at "ds"))
section
variable {b : WB} {wb : WS} {P : DEnds} {δ : Dl}
theorem loopN (xs : List PyData) (I : Dl → Prop) (h0 : I δ) (turn : ∀ x δ (C : Dl → Prop), x ∈ xs → I δ → (∀ δ', I δ' → C δ') → b x δ fun δ1 => wb { P with nx := C, ct := C, bk := P.nx } δ1)
    (hn : ∀ δ, I δ → P.nx δ) : wLoop b wb P xs δ := by
  have := loopT (b := b) (wb := wb) (P := P) (δ := δ) (fun d : PyData => d) xs (fun _ => I) h0 (fun n x δ C hx hi hC => turn x δ C (List.mem_of_getElem? hx) hi hC) hn
  rwa [List.map_id'] at this
end
theorem mkSh0 {m : Int} (m1 : 1 ≤ m) (m5 : m ≤ 5) (a dx : Nat) : S_i_SheetN ⟨"Sheet", a, dx, []⟩ [.int m, .tuple []] fun o' => o'.n = ("Sheet" : Str) ∧ List.lookup ("columns" : Str) o'.fs = some (Fv.d (.int m)) ∧ List.lookup ("held" : Str) o'.fs = some (Fv.d (.tuple [])) ∧ List.lookup ("NAME" : Str) o'.fs = none :=
  ⟨m, [], rfl, rfl, rfl, m1, m5, ⟨by decide, fun r hr => nomatch hr⟩, fun _ h1 h2 h3 h4 => ⟨h1, h2, h3, h4⟩⟩
theorem mkSh2 (a dx : Nat) : S_i_SheetN ⟨"Sheet", a, dx, []⟩ [.int 2, .tuple [.tuple [.tuple [.int 0], .int 1]]] fun o' => o'.n = ("Sheet" : Str) ∧ List.lookup ("columns" : Str) o'.fs = some (Fv.d (.int 2)) ∧ List.lookup ("held" : Str) o'.fs = some (Fv.d (.tuple [])) ∧ List.lookup ("NAME" : Str) o'.fs = none :=
  ⟨2, [([0], 1)], rfl, rfl, rfl, by decide, by decide, ⟨by decide, fun r hr => by
    rw [List.mem_singleton.mp hr]
    exact ⟨⟨by decide, by decide, by decide⟩, by decide, by decide, by decide⟩⟩, fun _ h1 h2 h3 h4 => ⟨h1, h2, h3, h4⟩⟩
def low (x : Str) : Prop := ∀ c ∈ tl x, c < 128
theorem low_app {x y : Str} (h : low x) (g : low y) : low (x ++ y) := by
  intro c hc
  rw [tl_append] at hc
  rcases List.mem_append.mp hc with q | q
  · exact h c q
  · exact g c q
theorem low_join {sep : Str} (hs : low sep) {ts : List Str} (h : ∀ t ∈ ts, low t) : low (Str.join sep ts) := by
  intro c hc
  rw [tl_join] at hc
  rcases joinL_mem hc with q | ⟨p, hp, q⟩
  · exact hs c q
  · obtain ⟨t, ht, rfl⟩ := List.mem_map.mp hp
    exact h t ht c q
theorem low_tuple {ts : List Str} (h : ∀ t ∈ ts, low t) : low (tupleText ts) := by
  have l1 : low ("(" : Str) := by unfold low; decide +kernel
  have l2 : low (", " : Str) := by unfold low; decide +kernel
  have l3 : low (",)" : Str) := by unfold low; decide +kernel
  have l4 : low (")" : Str) := by unfold low; decide +kernel
  unfold tupleText
  refine low_app (low_app l1 (low_join l2 h)) ?_
  split
  · exact l3
  · exact l4
theorem low_int {i : Int} (h : 0 ≤ i) : low (PyData.shown (.int i)) := by
  have e : PyData.shown (.int i) = SX.S (numL i.toNat) := by
    unfold PyData.shown
    exact str_nat h
  rw [e]
  intro c hc
  have := (numL_digits i.toNat c hc).2
  omega
theorem shownAll_mem {xs : List PyData} {t : Str} (h : t ∈ PyData.shownAll xs) : ∃ x ∈ xs, t = x.shown := by
  induction xs with
  | nil => unfold PyData.shownAll at h; cases h
  | cons x xs ih =>
    unfold PyData.shownAll at h
    rcases List.mem_cons.mp h with rfl | h
    · exact ⟨x, by simp, rfl⟩
    · obtain ⟨y, hy, e⟩ := ih h
      exact ⟨y, List.mem_cons_of_mem _ hy, e⟩
theorem low_tup {xs : List PyData} (h : ∀ x ∈ xs, low x.shown) : low (PyData.shown (.tuple xs)) := by
  unfold PyData.shown
  refine low_tuple fun t ht => ?_
  obtain ⟨x, hx, rfl⟩ := shownAll_mem ht
  exact h x hx
theorem low_pair {m : Int} {rl : List Rule} (m1 : 1 ≤ m) (hr : RulesOk m rl) : low (PyData.shown (.tuple [.int m, rulesD rl])) := by
  refine low_tup fun x hx => ?_
  simp only [List.mem_cons, List.not_mem_nil, or_false] at hx
  rcases hx with rfl | rfl
  · exact low_int (by omega)
  · refine low_tup fun x hx => ?_
    obtain ⟨r, hr', rfl⟩ := List.mem_map.mp hx
    have ro := hr.all r hr'
    refine low_tup fun x hx => ?_
    simp only [List.mem_cons, List.not_mem_nil, or_false] at hx
    rcases hx with rfl | rfl
    · refine low_tup fun x hx => ?_
      obtain ⟨c, hc, rfl⟩ := List.mem_map.mp hx
      exact low_int (ro.cols.inn c hc).1
    · exact low_int ro.lo
theorem rep_le {x : Str} (h : low x) : (PyData.shown (.str x)).length ≤ 10 * x.length + 2 := by
  have := PySem.StrLaws.reprText_len x fun c hc => Nat.lt_trans (h c hc) (by decide)
  unfold PyData.shown
  exact this
theorem sm_pair {m : Int} {rl : List Rule} (m1 : 1 ≤ m) (m5 : m ≤ 5) (hr : RulesOk m rl) : Sm 66 4 (.tuple [.int m, rulesD rl]) := by
  have := (sm_two (sm_int (i := m) (by omega) (by omega)) (sm_rules m5 hr)).1
  exact ⟨this.1, Nat.le_trans this.2.1 (by decide), Nat.le_trans this.2.2 (by decide)⟩
theorem show_told {m : Int} {rl : List Rule} (m1 : 1 ≤ m) (m5 : m ≤ 5) (hr : RulesOk m rl) : showOk (.list [.str (SX.S (textR m rl)), .str (SX.S (textR m rl)), .str (PyData.tuple [.int m, rulesD rl]).shown]) := by
  have h1 : low (SX.S (textR m rl)) := fun c hc => by
    have := textR_low (m := m) (rl := rl)
    rw [List.all_eq_true] at this
    exact of_decide_eq_true (this c hc)
  have h2 := low_pair m1 hr
  have r1 := rep_le h1
  have r2 := rep_le h2
  have t1 := textR_len m1 m5 hr
  have es := sLen (textR m rl)
  obtain ⟨_, _, s3⟩ := show_len _ (sm_pair m1 m5 hr).1
  have c3 := (sm_pair m1 m5 hr).2.1
  generalize (PyData.tuple [.int m, rulesD rl]).shown = sh at r2 s3 ⊢
  refine ⟨by simp [PyData.showable, PyData.showableAll], by simp [PyData.hasDict, PyData.hasDictAll], by simp [PyData.depth, PyData.depthAll], ?_⟩
  have h4 := listText_len_le (PyData.shownAll [.str (SX.S (textR m rl)), .str (SX.S (textR m rl)), .str sh])
  have z3 : sizeLine ≥ 100000 := by rw [sizeLine_eq]; decide
  show (listText (PyData.shownAll _)).length ≤ _
  simp only [PyData.shownAll, List.map_cons, List.map_nil, List.sum_cons, List.sum_nil, List.length_cons, List.length_nil] at h4 ⊢
  omega
theorem hS_law_right : ∀ δ P, S_law_right δ P → ArgOk 1 δ ∧ wb_law_right (endsOf δ P) (δ ++ List.replicate (9 - 1) Sl.un) := by
  rintro δ P ⟨xs, n, rfl, hp, hn, h⟩
  refine ⟨argO _ [], ?_⟩
  unfold wb_law_right
  have z3 : sizeLine ≥ 100000 := by rw [sizeLine_eq]; decide
  refine seqT fun T hT => ?_
  walk_at "ds"
  refine ⟨rfl, xs, n, rfl, hp, by omega, fun ys m rl hy m1 m5 hr => ?_⟩
  have few := hr.few
  walk_at "ds"
  refine ⟨rfl, ?_⟩
  rw [hT]
  refine seqT fun T hT => ?_
  walk_at "ds"
  refine ⟨rfl, m, rl, rfl, m5, hr, ?_⟩
  walk_at "ds"
  refine ⟨rfl, m, rl, rfl, m1, m5, hr, ?_⟩
  walk_at "ds"
  rw [hT]
  refine seqT fun T hT => ?_
  have orl := odd_rules hr
  have tl1 := textR_len m1 m5 hr
  have tx : TxOk (.str (SX.S (textR m rl))) := tx_S (by omega)
  have pt : parsRD (.str (SX.S (textR m rl))) = some (.tuple [.int m, rulesD rl]) := read_textR m1 m5 hr
  have sok : showOk (.tuple [.int m, rulesD rl]) := (sm_pair m1 m5 hr).ok (by decide) (by decide)
  walk_at "sd"
  refine ⟨rfl, .int m, rulesD rl, rfl, rfl, orl, .inl ⟨m, rl, rfl, rfl, m1, m5, hr, ?_⟩⟩
  walk_at "sd"
  refine ⟨rfl, .int m, rulesD rl, rfl, rfl, orl, .inl ⟨m, rl, rfl, rfl, m1, m5, hr, ?_⟩⟩
  walk_at "sd"
  refine ⟨rfl, _, rfl, tx, .inl ⟨_, pt, ?_⟩⟩
  walk_at "sd"
  refine ⟨rfl, sok, ⟨rfl, by show 3 ≤ 1000; decide⟩, ?_⟩
  rw [hT]
  refine seqT fun T hT => ?_
  have st := show_told m1 m5 hr
  walk_at "ds"
  refine ⟨⟨rfl, by show 2 ≤ 1000; decide⟩, sok, ⟨rfl, by show 3 ≤ 1000; decide⟩, rfl, _, rfl, st, ?_⟩
  walk_at "ds"
  refine ifF rfl ?_
  rw [hT]
  refine seqT fun T hT => ?_
  have tl0 : 1 ≤ (textR m rl).length := by unfold textR; rw [List.length_append, List.length_singleton]; omega
  walk_at "ds"
  refine ⟨⟨rfl, by show 1 ≤ 1000; decide⟩, rfl, ys, n + 101, textR m rl, rfl, hy, by omega, tl0, tl1, textR_low, fun zs d1 hz dl1 dt1 => ?_⟩
  walk_at "ds"
  refine ⟨by show 1 + d1.length < 100000; omega, rfl, zs, n + 101 + 3, textR m rl, rfl, hz, by omega, tl0, tl1, textR_low, fun us d2 hu dl2 dt2 => ?_⟩
  walk_at "ds"
  refine ⟨by rw [List.length_cons]; omega, ?_⟩
  have t3 : ∀ d ∈ PyData.str (SX.S (textR m rl)) :: (d1 ++ d2), TxOk d := fun d hd => by
    rcases List.mem_cons.mp hd with rfl | hd
    · exact tx
    · rcases List.mem_append.mp hd with hd | hd
      · exact dt1 d hd
      · exact dt2 d hd
  have n3 : (PyData.str (SX.S (textR m rl)) :: (d1 ++ d2)).length ≤ 61 := by rw [List.length_cons, List.length_append]; omega
  generalize PyData.str (SX.S (textR m rl)) :: (d1 ++ d2) = D3 at t3 n3 ⊢
  rw [hT]
  refine seqT fun T hT => ?_
  unfold rulesD
  walk_at "ds"
  rw [List.length_map]
  refine ⟨by decide, by omega, by omega, fun t ht => ?_⟩
  have et : t = SX.S t.cps.toList := (SX.S_tl t).symm
  have lt : t.cps.toList.length ≤ 36 := by
    have e2 : ("> 0\n" : Str).length = 4 := by decide +kernel
    have e3 : t.length = t.cps.toList.length := len_tl t
    rw [e2] at ht
    omega
  rw [et]
  generalize t.cps.toList = tc at lt
  refine catS (by omega) ?_
  walk_at "ds"
  have e4 : ("0 > 0\n" : Str) = SX.S [48, 32, 62, 32, 48, 10] := by decide +kernel
  rw [e4]
  refine catS (by show (textR m rl).length + 6 ≤ 1000; omega) ?_
  walk_at "ds"
  have e5 : (">0\n" : Str) = SX.S [62, 48, 10] := by decide +kernel
  rw [e5]
  refine catS (by show (textR m rl).length + 3 ≤ 1000; omega) ?_
  walk_at "ds"
  refine ⟨⟨rfl, by show 4 ≤ 1000; decide⟩, ?_, ?_⟩
  · show D3.length + 4 < 100000
    omega
  refine (fun step : ∀ D : List PyData, D.length ≤ 65 → (∀ d ∈ D, TxOk d) → T [.o us, .d (.str (SX.S (textR m rl))), .d (.list [.str (SX.S (textR m rl)), .str (SX.S (textR m rl)), .str (PyData.tuple [.int m, rulesD rl]).shown]), .d (.list D), .un, .un, .d (.int m), .d (rulesD rl), .un] => step _ (by rw [List.length_append]; show D3.length + 4 ≤ 65; omega) fun d hd => ?_) (fun D4 n4 t4 => ?_)
  · have hd := List.mem_append.mp hd
    rcases hd with hd | hd
    · exact t3 d hd
    obtain ⟨x, hx, rfl⟩ := List.mem_map.mp hd
    simp only [List.mem_cons, List.not_mem_nil, or_false] at hx
    rcases hx with rfl | rfl | rfl | rfl
    · exact tx_S (by rw [List.length_append]; omega)
    · exact tx_S (by rw [List.length_append]; show (textR m rl).length + 6 ≤ 900; omega)
    · exact tx_S (by rw [List.length_append]; show (textR m rl).length + 3 ≤ 900; omega)
    · exact tx_odd orl (fun z e => by cases e)
  rw [hT]
  refine seqT fun T hT => ?_
  have sh1 := mkSh0 (m := 1) (by decide) (by decide)
  walk_at "ds"
  refine ⟨rfl, by decide, 1, sh1, ⟨rfl, by decide⟩, ⟨rfl, by decide⟩, rfl, by decide, 2, mkSh2, rfl, by decide, 1, sh1, ⟨rfl, by decide⟩, ⟨rfl, by decide⟩, ?_, ?_⟩
  · show D4.length + 3 < 100000
    omega
  walk_at "ds"
  refine loopN _ (fun δ => ∃ y4 y8, δ = [.o us, .d (.str (SX.S (textR m rl))), .d (.list [.str (SX.S (textR m rl)), .str (SX.S (textR m rl)), .str (PyData.tuple [.int m, rulesD rl]).shown]), .d (.list D4), y4, .un, .d (.int m), .d (rulesD rl), y8]) ⟨_, _, rfl⟩ ?_ ?_
  · rintro d δ C hd ⟨y4, y8, rfl⟩ hC
    have td : TxOk d := by
      have hd := List.mem_append.mp hd
      rcases hd with hd | hd
      · exact t4 d hd
      simp only [List.mem_cons, List.not_mem_nil, or_false] at hd
      rcases hd with rfl | rfl | rfl
      · exact tx_odd rfl (fun z e => by cases e)
      · exact tx_odd rfl (fun z e => by cases e)
      · exact tx_odd rfl (fun z e => by cases e)
    refine seqT fun T hT => ?_
    walk_at "ds"
    refine ⟨rfl, d, rfl, td, ?_⟩
    cases q : parsRD d with
    | none =>
      walk_at "ds"
      rw [hT]
      walk_at "sd"
      refine ⟨rfl, d, rfl, td, .inr ⟨q, by decide, ?_⟩⟩
      walk_at "ds"
      refine is_ok (k := true) rfl ?_
      refine ifT rfl ?_
      refine ne_ok (k := true) rfl (by decide +kernel) ?_
      exact ifF rfl (hC _ ⟨_, _, rfl⟩)
    | some t =>
      obtain ⟨m', rl', rfl, q1, q5, hr'⟩ : ∃ m' rl', t = .tuple [.int m', rulesD rl'] ∧ 1 ≤ m' ∧ m' ≤ 5 ∧ RulesOk m' rl' := by
        unfold parsRD at q
        split at q
        · unfold parsR at q
          split at q
          · cases q
          · rename_i m' ls' qh
            split at q
            · rename_i hq
              cases q
              have rg : 1 ≤ m' ∧ m' ≤ 5 := by
                unfold headA at qh
                split at qh
                · split at qh
                  · cases qh
                  · rename_i l ls _
                    cases qq : headW (wordsOf l) with
                    | none => rw [qq] at qh; cases qh
                    | some mm =>
                      rw [qq] at qh
                      cases qh
                      exact headW_rng qq
                · cases qh
              obtain ⟨rl', e, hr'⟩ := rulesA_ok rg.2 hq
              exact ⟨m', rl', by unfold pairA; rw [e], rg.1, rg.2, hr'⟩
            · cases q
        · cases q
      have so : showOk (.tuple [.int m', rulesD rl']) := (sm_pair q1 q5 hr').ok (by decide) (by decide)
      have e5 : outP (some (.tuple [.int m', rulesD rl'])) = .tuple [.int m', rulesD rl'] := rfl
      rw [e5]
      walk_at "ds"
      rw [hT]
      walk_at "sd"
      refine ⟨rfl, d, rfl, td, .inl ⟨_, q, ?_⟩⟩
      walk_at "sd"
      refine ⟨rfl, so, ?_⟩
      refine is_ok (k := false) rfl ?_
      refine ifF rfl ?_
      walk_at "ds"
      refine ⟨so, ?_⟩
      refine ne_ok (k := true) rfl (by show (_ == _) = true; exact beq_self_eq_true _) ?_
      exact ifF rfl (hC _ ⟨_, _, rfl⟩)
  · rintro δ ⟨y4, y8, rfl⟩
    dsimp only
    rw [hT]
    refine seqT fun T hT => ?_
    walk_at "ds"
    refine ⟨rfl, m, rfl, m1, m5, fun ds hl2 hd => ?_⟩
    walk_at "ds"
    refine loopN _ (fun δ => ∃ y4 y5 y8, δ = [.o us, .d (.str (SX.S (textR m rl))), .d (.list [.str (SX.S (textR m rl)), .str (SX.S (textR m rl)), .str (PyData.tuple [.int m, rulesD rl]).shown]), .d (.list D4), y4, y5, .d (.int m), .d (rulesD rl), y8]) ⟨_, _, _, rfl⟩ ?_ ?_
    · rintro d δ C hm ⟨z4, z5, z8, rfl⟩ hC
      obtain ⟨od, rd⟩ := hd d hm
      walk_at "sd"
      refine ⟨rfl, .int m, d, rfl, rfl, od, .inr (.inr ⟨m, rfl, m1, m5, rd, by decide, ?_⟩)⟩
      walk_at "ds"
      refine ne_ok (k := true) rfl (by decide +kernel) ?_
      exact ifF rfl (hC _ ⟨_, _, _, rfl⟩)
    · rintro δ ⟨z4, z5, z8, rfl⟩
      dsimp only
      rw [hT]
      walk_at "ds"
      exact h us (hu.mono (by omega))
theorem hS_law : ∀ δ P, S_law δ P → ArgOk 1 δ ∧ wb_law (endsOf δ P) (δ ++ List.replicate (5 - 1) Sl.un) := by
  rintro δ P ⟨ns, rfl, hl, h⟩
  refine ⟨argD [.list (ns.map PyData.int)], ?_⟩
  unfold wb_law
  refine seqT fun T hT => ?_
  walk_at "ds"
  refine ⟨rfl, fun ds hl2 hd => ?_⟩
  walk_at "ds"
  refine loopN _ (fun δ => ∃ y1, δ = [.d (.list (ns.map PyData.int)), y1, .un, .un, .un]) ⟨_, rfl⟩ ?_ ?_
  · rintro d δ C hm ⟨y1, rfl⟩ hC
    obtain ⟨od, rd⟩ := hd d hm
    walk_at "sd"
    refine ⟨rfl, d, .none, rfl, od, rfl, .inr (.inl ⟨rd, by decide, ?_⟩)⟩
    walk_at "ds"
    refine ne_ok (k := true) rfl (by decide +kernel) ?_
    exact ifF rfl (hC _ ⟨_, rfl⟩)
  rintro δ ⟨y1, rfl⟩
  dsimp only
  rw [hT]
  refine seqT fun T hT => ?_
  walk_at "ds"
  generalize hk : (if (if (3 : Int) < (((ns.map PyData.int).length : Nat) : Int) then (3 : Int) else (((ns.map PyData.int).length : Nat) : Int)) > 1 then (if (3 : Int) < (((ns.map PyData.int).length : Nat) : Int) then (3 : Int) else (((ns.map PyData.int).length : Nat) : Int)) else 1) = k
  have k0 : 0 ≤ k ∧ k ≤ 3 := by
    rw [← hk]
    split <;> split <;> omega
  refine ⟨⟨by omega, by omega⟩, ?_⟩
  refine loopR k.toNat (fun i δ => ∃ y1 y2 y3 y4, δ = [.d (.list (ns.map PyData.int)), y1, y2, y3, y4]) ⟨_, _, _, _, rfl⟩ ?_ ?_
  · rintro i δ C hi ⟨y1, y2, y3, y4, rfl⟩ hC
    refine seqT fun T hT => ?_
    walk_at "ds"
    refine ⟨rfl, ns, _, rfl, by omega, fun v => ?_⟩
    walk_at "ds"
    refine ⟨rfl, v, rfl, fun xs hp => ?_⟩
    walk_at "ds"
    rw [hT]
    walk_at "ds"
    refine ⟨⟨by decide, by decide⟩, ?_⟩
    show wLoop _ _ _ (rangeD 0 3) _
    refine loopR 3 (fun j δ => ∃ us y1 y2 y4, δ = [.d (.list (ns.map PyData.int)), y1, y2, .o us, y4] ∧ Pen (120 * j) us) ⟨xs, _, _, _, rfl, hp⟩ ?_ ?_
    · rintro j δ C2 hj ⟨us, z1, z2, z4, rfl, hu⟩ hC2
      walk_at "ds"
      refine ⟨rfl, ⟨rfl, by decide, rfl⟩, us, 120 * j, rfl, hu, by omega, fun vs hv => ?_⟩
      show (if (!true) = true then P (.d (.bool false)) [.d (.list (ns.map PyData.int))] else C2 _)
      exact ifF rfl (hC2 _ ⟨vs, z1, z2, _, rfl, hv.mono (by omega)⟩)
    · rintro δ ⟨us, z1, z2, z4, rfl, hu⟩
      exact hC _ ⟨_, _, _, _, rfl⟩
  rintro δ ⟨y1, y2, y3, y4, rfl⟩
  rw [hT]
  walk_at "ds"
  exact h
end B
namespace Hq
open PySem PySem.Spec PyProof.Rows L2 He Dw
end Hq
namespace B
open PySem PySem.Spec PyProof.Rows L2 Dw
section
variable {P : Program} {w : World} {K : PySem.W.Frag} {mg : Str → Option Value} {base : Heap}
abbrev N_law_said : List Str := ["_law_call", "_law_e"]
theorem sc_law_said : FnScope N_law_said ["_law_call"] (defScope st_law_said) := ⟨rfl, rfl, rfl, by decide +kernel, rfl, by decide +kernel, by decide +kernel⟩
def ws_said (a : Addr) (n : Str) : WS := wRet (w2 rCatSD (wC (.str "! ")) (wStrE a (sayU n) (wV 1)))
theorem hS_said : ∀ (f a : Addr) (n : Str), n ∈ sayN → ws_said a n { nx := fun _ => False, rt := fun r _ => r = .d (.str (sayW n)), bk := fun _ => False, ct := fun _ => False } ((([Sl.d (adD f)] : Dl) ++ List.replicate (N_law_said.length - 1) Sl.un).set 1 (Sl.d (adD a))) := by
  intro f a n hn
  have : n = "NoMany" ∨ n = "NoRules" ∨ n = "NoText" := by simpa [sayN] using hn
  rcases this with rfl | rfl | rfl <;> exact ⟨rfl, by decide +kernel, rfl⟩
theorem ok_law_said {h : Heap} {C_BlankError : Addr} (X : K.In h) (G : h.Ns mainGlobals mg) (d : DefIn K "_law_said" st_law_said) (bl : Bl mg) (m_B : mg "BlankError" = some (.ref C_BlankError)) (hex : ∀ n ∈ sayN, ∀ D, mg n = some (.ref D) → PySem.W.exmOne K (.ref D) (.ref C_BlankError) = some true) (hns : ∀ n ∈ sayN, ∃ D, mg n = some (.ref D)) (hcE : ∀ n ∈ sayN, ∀ D, mg n = some (.ref D) → ExcC K D) (f_law_word : FnP P w K mg base 1 "_law_word" sayN sayU) : SaidFn P w K mg base 2 "_law_said" sayN sayW := by
  obtain ⟨f, oc, od, kV, dc, pm, an, cd, ct, sl, a, l, c, kp⟩ := d
  have F := fun_mk (st := st_law_said) l c kp
  refine ⟨f, oc, od, st_law_said, kV, dc, pm, an, cd, ct, sl, N_law_said, "_law_call", PySem.W.mg_of X G a, kp, l, c, (F.binds fun _ _ _ _ _ _ us hl => match us, hl with | [_], _ => rfl), sc_law_said, rfl, .inl rfl, by decide, by decide, ?_⟩
  exact said_of (i := 1) (ws := ws_said) sc_law_said bl.repr rfl rfl rfl rfl rfl (by decide) m_B hex hns hcE (by decide) (by decide) hS_said fun A outer s H a oe n pn hn g0 room pe => ds_one (ds_ret (de_catS de_str (de_callP pe hn f_law_word (⟨by have := room.dp; show (A.deeper (envOfC "_law_said" (defScope st_law_said) s.heap.objs.size f cd)).depth + 3 * 1 + 5 < _; omega, by have := room.un; show (A.deeper (envOfC "_law_said" (defScope st_law_said) s.heap.objs.size f cd)).units + 16 * 1 + 200 < _; omega⟩ : L2H.RoomH 1 _) rfl (de_v 1))))
abbrev N_is_number : List Str := ["thing", "low", "high"]
theorem sc_is_number : FnScope N_is_number ["thing", "low", "high"] (defScope st_is_number) := ⟨rfl, rfl, rfl, by decide +kernel, rfl, by decide +kernel, by decide +kernel⟩
theorem ok_is_number {f : Addr} {fd : FuncData} (F : Fun K "is_number" "is_number" st_is_number f fd) (bl : Bl mg) (oi_bool : OdI K "bool") (oi_int : OdI K "int") : FnG P w K mg base CX0 1 f fd ["thing", "low", "high"] (spOf K S_is_numberA) :=
  fnD (wb := wb_is_numberA) F sc_is_number (by decide) hS_is_numberA fun cdv A outer s G E g0 room => by
    have sc := sc_is_number
    exact (ds_one (ds_ret (de_and (de_isiA isfA_int oi_int rfl bl.isinstance (de_v 0) rfl bl.int boot_intT) (de_and (de_not (de_isiA isfA_bool oi_bool rfl bl.isinstance (de_v 0) rfl bl.bool boot_boolT)) (de_one (de_lele (de_v 1) (de_v 0) (de_v 2)))))))
abbrev N_columns_line : List Str := ["many"]
theorem sc_columns_line : FnScope N_columns_line ["many"] (defScope st_columns_line) := ⟨rfl, rfl, rfl, by decide +kernel, rfl, by decide +kernel, by decide +kernel⟩
theorem ok_columns_line {f : Addr} {fd : FuncData} (F : Fun K "columns_line" "columns_line" st_columns_line f fd) (bl : Bl mg) : FnG P w K mg base CX0 1 f fd ["many"] (spOf K S_columns_line) :=
  fnD (wb := wb_columns_line) F sc_columns_line (by decide) hS_columns_line fun cdv A outer s G E g0 room => by
    have sc := sc_columns_line
    exact (ds_one (ds_ret (de_joined (DJ.cons de_str (DJ.cons (de_fmt (de_v 0)) (DJ.cons de_str DJ.nil))))))
abbrev N_rule_line : List Str := ["rule", "given", "then", "column"]
theorem sc_rule_line : FnScope N_rule_line ["rule"] (defScope st_rule_line) := ⟨rfl, rfl, rfl, by decide +kernel, rfl, by decide +kernel, by decide +kernel⟩
theorem ok_rule_line {f : Addr} {fd : FuncData} (F : Fun K "rule_line" "rule_line" st_rule_line f fd) (bl : Bl mg) : FnG P w K mg base CX0 1 f fd ["rule"] (spOf K S_rule_line) :=
  fnD (wb := wb_rule_line) F sc_rule_line (by decide) hS_rule_line fun cdv A outer s G E g0 room => by
    have sc := sc_rule_line
    exact (ds_cons (ds_asg (de_v 0) (dg_tup rfl (dgs_cons (dg_name 1 sc.nd) (dgs_cons (dg_name 2 sc.nd) dgs_nil))))
      (ds_one (ds_ret (de_catS (de_joinT (de_lc (own := [("column", 3)]) rfl sc.nd (di_seq (de_v 1)) (blkOk_by (N := N_rule_line) (sc := defScope st_rule_line) (own := [("column", 3)]) (by decide +kernel)) (fun _ _ _ _ _ => (dg_name 3 sc.nd)) (fun _ _ _ _ _ => dts_nil) (fun _ _ _ _ _ => (de_joined (DJ.cons (de_fmt (de_v 3)) (DJ.cons de_str DJ.nil)))))) (de_joined (DJ.cons de_str (DJ.cons (de_fmt (de_v 2)) (DJ.cons de_str DJ.nil))))))))
abbrev N_read_number : List Str := ["word", "number", "sign"]
theorem sc_read_number : FnScope N_read_number ["word"] (defScope st_read_number) := ⟨rfl, rfl, rfl, by decide +kernel, rfl, by decide +kernel, by decide +kernel⟩
theorem ok_read_number {f : Addr} {fd : FuncData} {t_NO_NUMBER : Tok} {t_MOST_DIGITS : Tok} (F : Fun K "read_number" "read_number" st_read_number f fd) (bl : Bl mg) (c_NO_NUMBER : mg "NO_NUMBER" = some (.int (-1) t_NO_NUMBER)) (c_MOST_DIGITS : mg "MOST_DIGITS" = some (.int 4 t_MOST_DIGITS)) {ts_DIGITS : Tok} (cs_DIGITS : mg "DIGITS" = some (.str "0123456789" ts_DIGITS)) : FnG P w K mg base CX0 1 f fd ["word"] (spOf K S_read_number) :=
  fnD (wb := wb_read_number) F sc_read_number (by decide) hS_read_number fun cdv A outer s G E g0 room => by
    have sc := sc_read_number
    exact (ds_cons (ds_if (dt_w (dw_or (dt_not (dt_lele de_int (de_lenS rfl bl.len (da_cons (de_v 0) da_nil)) (de_globI rfl c_MOST_DIGITS))) (dw_or1 (dt_not (dt_truth (de_all rfl rfl bl.all (da_cons (de_lc (own := [("sign", 2)]) rfl sc.nd (di_str (de_v 0)) (blkOk_by (N := N_read_number) (sc := defScope st_read_number) (own := [("sign", 2)]) (by decide +kernel)) (fun _ _ _ _ _ => (dg_name 2 sc.nd)) (fun _ _ _ _ _ => dts_nil) (fun _ _ _ _ _ => (de_inSg (de_v 2) (de_globS rfl cs_DIGITS)))) da_nil))))))) (ds_one (ds_ret (de_globI rfl c_NO_NUMBER))) ds_nil)
      (ds_cons (ds_set 1 sc.nd (de_intS rfl bl.int (da_cons (de_v 0) da_nil)))
      (ds_one (ds_ret (de_if (dt_eq room.units (de_strI rfl bl.str (da_cons (de_v 1) da_nil)) (de_v 0)) (de_v 1) (de_globI rfl c_NO_NUMBER))))))
abbrev N_text_linesX : List Str := ["text"]
theorem sc_text_linesX : FnScope N_text_linesX ["text"] (defScope st_text_linesX) := ⟨rfl, rfl, rfl, by decide +kernel, rfl, by decide +kernel, by decide +kernel⟩
theorem ok_text_linesX {f : Addr} {fd : FuncData} {C_NoText : Addr} (F : Fun K "text_lines" "text_lines" st_text_linesX f fd) (bl : Bl mg) (x_NoText : ExcAt K mg "NoText" C_NoText) (oi_str : OdI K "str") : FnG P w K mg base (L2.CX P w) 1 f fd ["text"] (spX K mg S_text_linesX) :=
  fnDX (wb := wb_text_linesX) F sc_text_linesX (by decide) hS_text_linesX fun cdv A outer s G E g0 room tk po => by
    have sc := sc_text_linesX
    exact (dsx_cons (dsx_if (dt_w (dw_or (dt_not (dt_truth (de_isiA isfA_str oi_str rfl bl.isinstance (de_v 0) rfl bl.str boot_strT))) (dw_or1 (dt_not (dt_truth (de_endsW (de_v 0))))))) (dsx_one (dsx_raise rfl tk ve_base x_NoText rfl)) (dssx_pure ds_nil))
      (dsx_one (dsx_pure (ds_ret (de_split (de_sliceS (de_v 0) do_none (do_some (de_neg de_int))))))))
abbrev N_law_cell_at : List Str := ["_law_script", "_law_k"]
theorem sc_law_cell_at : FnScope N_law_cell_at ["_law_script", "_law_k"] (defScope st_law_cell_at) := ⟨rfl, rfl, rfl, by decide +kernel, rfl, by decide +kernel, by decide +kernel⟩
theorem ok_law_cell_at {f : Addr} {fd : FuncData} (F : Fun K "_law_cell_at" "_law_cell_at" st_law_cell_at f fd) (bl : Bl mg) : FnG P w K mg base CX0 1 f fd ["_law_script", "_law_k"] (spOf K S_law_cell_at) :=
  fnD (wb := wb_law_cell_at) F sc_law_cell_at (by decide) hS_law_cell_at fun cdv A outer s G E g0 room => by
    have sc := sc_law_cell_at
    exact (ds_cons (ds_if (dt_lt (de_v 1) (de_len rfl bl.len (da_cons (de_v 0) da_nil))) (ds_one (ds_ret (de_ix (de_v 0) (de_v 1)))) ds_nil)
      (ds_one (ds_ret de_int)))
abbrev N_law_pen : List Str := ["_law_cell"]
theorem sc_law_pen : FnScope N_law_pen ["_law_cell"] (defScope st_law_pen) := ⟨rfl, rfl, rfl, by decide +kernel, rfl, by decide +kernel, by decide +kernel⟩
theorem ok_law_pen {f : Addr} {fd : FuncData} (F : Fun K "_law_pen" "_law_pen" st_law_pen f fd) (bl : Bl mg) : FnG P w K mg base CX0 1 f fd ["_law_cell"] (spOf K S_law_pen) :=
  fnD (wb := wb_law_pen) F sc_law_pen (by decide) hS_law_pen fun cdv A outer s G E g0 room => by
    have sc := sc_law_pen
    exact (ds_one (ds_ret (de_lst (da_cons (de_max2 rfl rfl bl.max (da_cons de_int (da_cons (de_sub (de_v 0) (de_pow de_int de_int)) da_nil))) (da_cons (de_mod (de_v 0) de_int) (da_cons de_int da_nil))))))
abbrev N_law_draw : List Str := ["_law_pen_here", "_law_many", "_law_stir", "_law_digit"]
theorem sc_law_draw : FnScope N_law_draw ["_law_pen_here", "_law_many"] (defScope st_law_draw) := ⟨rfl, rfl, rfl, by decide +kernel, rfl, by decide +kernel, by decide +kernel⟩
theorem ok_law_draw {f : Addr} {fd : FuncData} (F : Fun K "_law_draw" "_law_draw" st_law_draw f fd) (bl : Bl mg) : FnG P w K mg base CX0 1 f fd ["_law_pen_here", "_law_many"] (spOf K S_law_draw) :=
  fnD (wb := wb_law_draw) F sc_law_draw (by decide) hS_law_draw fun cdv A outer s G E g0 room => by
    have sc := sc_law_draw
    exact (ds_cons (ds_if (dt_gt (de_ix (de_v 0) de_int) de_int) (ds_cons (ds_set 3 sc.nd (de_mod (de_ix (de_v 0) de_int) (de_v 1)))
      (ds_cons (ds_setI 0 de_int (de_fdiv (de_ix (de_v 0) de_int) (de_v 1)))
      (ds_one (ds_ret (de_v 3))))) ds_nil)
      (ds_cons (ds_setI 0 de_int (de_add (de_ix (de_v 0) de_int) de_int))
      (ds_cons (ds_set 2 sc.nd (de_mod (de_mul (de_add (de_ix (de_v 0) de_int) (de_mul de_int (de_ix (de_v 0) de_int))) (de_add de_int (de_mul de_int (de_ix (de_v 0) de_int)))) de_int))
      (ds_cons (ds_set 2 sc.nd (de_mod (de_add (de_add (de_mul (de_v 2) (de_v 2)) (de_mul de_int (de_ix (de_v 0) de_int))) de_int) de_int))
      (ds_one (ds_ret (de_mod (de_fdiv (de_mod (de_mul (de_v 2) de_int) de_int) de_int) (de_v 1))))))))
abbrev N_law_same : List Str := ["_law_found", "_law_due"]
theorem sc_law_same : FnScope N_law_same ["_law_found", "_law_due"] (defScope st_law_same) := ⟨rfl, rfl, rfl, by decide +kernel, rfl, by decide +kernel, by decide +kernel⟩
theorem ok_law_same {f : Addr} {fd : FuncData} (F : Fun K "_law_same" "_law_same" st_law_same f fd) (bl : Bl mg) : FnG P w K mg base CX0 1 f fd ["_law_found", "_law_due"] (spOf K S_law_same) :=
  fnD (wb := wb_law_same) F sc_law_same (by decide) hS_law_same fun cdv A outer s G E g0 room => by
    have sc := sc_law_same
    exact (ds_one (ds_ret (de_eq room.units (de_repr g0 (hu80 room) rfl bl.repr (da_cons (de_v 0) da_nil)) (de_repr g0 (hu80 room) rfl bl.repr (da_cons (de_v 1) da_nil)))))
abbrev N_law_word : List Str := ["_law_e", "_law_marks", "_law_words"]
theorem sc_law_word : FnScope N_law_word ["_law_e"] (defScope st_law_word) := ⟨rfl, rfl, rfl, by decide +kernel, rfl, by decide +kernel, by decide +kernel⟩
def boot_VE : bootBuiltins "ValueError" = some (.type "ValueError") := by decide +kernel
theorem ok_law_word {f : Addr} {fd : FuncData} {C_Conflict : Addr} {C_NoColumns : Addr} {C_NoFilling : Addr} {C_NoFull : Addr} {C_NoMany : Addr} {C_NoNumber : Addr} {C_NoParts : Addr} {C_NoRule : Addr} {C_NoRules : Addr} {C_NoTable : Addr} {C_NoText : Addr} {C_TooMany : Addr} (F : Fun K "_law_word" "_law_word" st_law_word f fd) (bl : Bl mg) (z_ValueError : mg "ValueError" = none) (kt_ValueError : KitN K mg "ValueError" (.type "ValueError") (fun _ => true) sayN) (hcE : ∀ n ∈ sayN, ∀ D, mg n = some (.ref D) → ExcC K D) (m_Conflict : mg "Conflict" = some (.ref C_Conflict)) (kt_Conflict : KitN K mg "Conflict" (.ref C_Conflict) (fun n => decide (n = "Conflict")) sayN) (m_NoColumns : mg "NoColumns" = some (.ref C_NoColumns)) (kt_NoColumns : KitN K mg "NoColumns" (.ref C_NoColumns) (fun n => decide (n = "NoColumns")) sayN) (m_NoFilling : mg "NoFilling" = some (.ref C_NoFilling)) (kt_NoFilling : KitN K mg "NoFilling" (.ref C_NoFilling) (fun n => decide (n = "NoFilling")) sayN) (m_NoFull : mg "NoFull" = some (.ref C_NoFull)) (kt_NoFull : KitN K mg "NoFull" (.ref C_NoFull) (fun n => decide (n = "NoFull")) sayN) (m_NoMany : mg "NoMany" = some (.ref C_NoMany)) (kt_NoMany : KitN K mg "NoMany" (.ref C_NoMany) (fun n => decide (n = "NoMany")) sayN) (m_NoNumber : mg "NoNumber" = some (.ref C_NoNumber)) (kt_NoNumber : KitN K mg "NoNumber" (.ref C_NoNumber) (fun n => decide (n = "NoNumber")) sayN) (m_NoParts : mg "NoParts" = some (.ref C_NoParts)) (kt_NoParts : KitN K mg "NoParts" (.ref C_NoParts) (fun n => decide (n = "NoParts")) sayN) (m_NoRule : mg "NoRule" = some (.ref C_NoRule)) (kt_NoRule : KitN K mg "NoRule" (.ref C_NoRule) (fun n => decide (n = "NoRule")) sayN) (m_NoRules : mg "NoRules" = some (.ref C_NoRules)) (kt_NoRules : KitN K mg "NoRules" (.ref C_NoRules) (fun n => decide (n = "NoRules")) sayN) (m_NoTable : mg "NoTable" = some (.ref C_NoTable)) (kt_NoTable : KitN K mg "NoTable" (.ref C_NoTable) (fun n => decide (n = "NoTable")) sayN) (m_NoText : mg "NoText" = some (.ref C_NoText)) (kt_NoText : KitN K mg "NoText" (.ref C_NoText) (fun n => decide (n = "NoText")) sayN) (m_TooMany : mg "TooMany" = some (.ref C_TooMany)) (kt_TooMany : KitN K mg "TooMany" (.ref C_TooMany) (fun n => decide (n = "TooMany")) sayN) : PBody P w K mg base 1 f fd "_law_e" sayN sayU :=
  fnP_of (P := P) (w := w) (base := base) (k := 0) (wd := sayU) (wb := wb_law_word) F sc_law_word (by decide) hcE hS_law_word fun cdv A outer s H p n hn room pe => by
    have sc := sc_law_word
    exact (ds_cons (ds_setD 1 sc.nd (de_lst (da_cons (de_isE pe hn kt_NoTable rfl bl.isinstance (de_v 0) rfl m_NoTable) (da_cons (de_isE pe hn kt_NoMany rfl bl.isinstance (de_v 0) rfl m_NoMany) (da_cons (de_isE pe hn kt_NoRules rfl bl.isinstance (de_v 0) rfl m_NoRules) da_nil)))))
      (ds_cons (ds_setD 1 sc.nd (de_catL (de_v 1) (de_lst (da_cons (de_isE pe hn kt_NoRule rfl bl.isinstance (de_v 0) rfl m_NoRule) (da_cons (de_isE pe hn kt_NoFull rfl bl.isinstance (de_v 0) rfl m_NoFull) (da_cons (de_isE pe hn kt_NoColumns rfl bl.isinstance (de_v 0) rfl m_NoColumns) da_nil))))))
      (ds_cons (ds_setD 1 sc.nd (de_catL (de_v 1) (de_lst (da_cons (de_isE pe hn kt_NoParts rfl bl.isinstance (de_v 0) rfl m_NoParts) (da_cons (de_isE pe hn kt_NoNumber rfl bl.isinstance (de_v 0) rfl m_NoNumber) (da_cons (de_isE pe hn kt_NoText rfl bl.isinstance (de_v 0) rfl m_NoText) da_nil))))))
      (ds_cons (ds_setD 1 sc.nd (de_catL (de_v 1) (de_lst (da_cons (de_isE pe hn kt_NoFilling rfl bl.isinstance (de_v 0) rfl m_NoFilling) (da_cons (de_isE pe hn kt_TooMany rfl bl.isinstance (de_v 0) rfl m_TooMany) (da_cons (de_isE pe hn kt_Conflict rfl bl.isinstance (de_v 0) rfl m_Conflict) da_nil))))))
      (ds_cons (ds_setD 2 sc.nd (de_lst (da_cons de_str (da_cons de_str (da_cons de_str (da_cons de_str (da_cons de_str (da_cons de_str (da_cons de_str da_nil)))))))))
      (ds_cons (ds_setD 2 sc.nd (de_catL (de_v 2) (de_lst (da_cons de_str (da_cons de_str (da_cons de_str (da_cons de_str (da_cons de_str da_nil))))))))
      (ds_cons (ds_if (dt_w (dw_or (dt_ne room.units (de_count 1 de_bl) de_int) (dw_or1 (dt_not (dt_truth (de_isEB pe hn kt_ValueError rfl bl.isinstance (de_v 0) rfl z_ValueError boot_VE)))))) (ds_one (ds_ret de_str)) ds_nil)
      (ds_one (ds_ret (de_ix (de_v 2) (de_index 1 de_bl)))))))))))
abbrev N_law_no_many : List Str := []
theorem sc_law_no_many : FnScope N_law_no_many [] (defScope st_law_no_many) := ⟨rfl, rfl, rfl, by decide +kernel, rfl, by decide +kernel, by decide +kernel⟩
theorem ok_law_no_many {f : Addr} {fd : FuncData} (F : Fun K "_law_no_many" "_law_no_many" st_law_no_many f fd) (bl : Bl mg) : FnG P w K mg base CX0 1 f fd [] (spOf K S_law_no_many) :=
  fnD (wb := wb_law_no_many) F sc_law_no_many (by decide) hS_law_no_many fun cdv A outer s G E g0 room => by
    have sc := sc_law_no_many
    exact (ds_one (ds_ret (de_lst (da_cons de_non (da_cons de_bl (da_cons de_bl (da_cons de_int (da_cons de_int (da_cons (de_neg de_int) (da_cons (de_pow de_int de_int) (da_cons de_str (da_cons de_str (da_cons (de_tup (da_cons de_int da_nil)) (da_cons (de_lst (da_cons de_int da_nil)) (da_cons de_nil (da_cons (de_tup da_nil) da_nil))))))))))))))))
abbrev N_law_no_rule : List Str := ["_law_many", "_law_found"]
theorem sc_law_no_rule : FnScope N_law_no_rule ["_law_many"] (defScope st_law_no_rule) := ⟨rfl, rfl, rfl, by decide +kernel, rfl, by decide +kernel, by decide +kernel⟩
theorem ok_law_no_rule {f : Addr} {fd : FuncData} (F : Fun K "_law_no_rule" "_law_no_rule" st_law_no_rule f fd) (bl : Bl mg) : FnG P w K mg base CX0 1 f fd ["_law_many"] (spOf K S_law_no_rule) :=
  fnD (wb := wb_law_no_rule) F sc_law_no_rule (by decide) hS_law_no_rule fun cdv A outer s G E g0 room => by
    have sc := sc_law_no_rule
    exact (ds_cons (ds_set 1 sc.nd (de_lst (da_cons de_non (da_cons de_bl (da_cons de_int (da_cons de_str (da_cons (de_tup da_nil) (da_cons (de_lst da_nil) (da_cons de_nil (da_cons (de_tup (da_cons de_int da_nil)) (da_cons (de_tup (da_cons de_int (da_cons de_int da_nil))) (da_cons (de_tup (da_cons (de_tup (da_cons de_int da_nil)) (da_cons de_int da_nil))) (da_cons (de_tup (da_cons (de_tup (da_cons (de_v 0) da_nil)) (da_cons de_int da_nil))) (da_cons (de_tup (da_cons (de_tup da_nil) (da_cons (de_v 0) da_nil))) da_nil))))))))))))))
      (ds_cons (ds_set 1 sc.nd (de_catL (de_v 1) (de_lst (da_cons (de_tup (da_cons (de_tup da_nil) (da_cons (de_neg de_int) da_nil))) (da_cons (de_tup (da_cons (de_tup da_nil) (da_cons de_bl da_nil))) (da_cons (de_tup (da_cons (de_tup da_nil) (da_cons de_non da_nil))) (da_cons (de_tup (da_cons (de_tup da_nil) (da_cons de_str da_nil))) (da_cons (de_tup (da_cons (de_tup (da_cons de_bl da_nil)) (da_cons de_int da_nil))) (da_cons (de_tup (da_cons (de_lst da_nil) (da_cons de_int da_nil))) (da_cons (de_lst (da_cons (de_tup da_nil) (da_cons de_int da_nil))) da_nil))))))))))
      (ds_one (ds_ret (de_catL (de_v 1) (de_lst (da_cons (de_tup (da_cons (de_tup (da_cons de_int (da_cons de_int da_nil))) (da_cons de_int da_nil))) (da_cons (de_tup (da_cons (de_tup (da_cons (de_neg de_int) da_nil)) (da_cons de_int da_nil))) (da_cons (de_tup (da_cons (de_tup da_nil) (da_cons de_int (da_cons de_int da_nil)))) (da_cons (de_tup (da_cons (de_tup (da_cons de_non da_nil)) (da_cons de_int da_nil))) (da_cons (de_tup (da_cons (de_tup (da_cons (de_tup (da_cons de_int da_nil)) da_nil)) (da_cons de_int da_nil))) (da_cons (de_tup (da_cons de_int (da_cons (de_tup da_nil) da_nil))) da_nil))))))))))))
abbrev N_law_text : List Str := ["_law_many", "_law_lines_here", "_law_line"]
theorem sc_law_text : FnScope N_law_text ["_law_many", "_law_lines_here"] (defScope st_law_text) := ⟨rfl, rfl, rfl, by decide +kernel, rfl, by decide +kernel, by decide +kernel⟩
theorem ok_law_text {f : Addr} {fd : FuncData} (F : Fun K "_law_text" "_law_text" st_law_text f fd) (bl : Bl mg) : FnG P w K mg base CX0 1 f fd ["_law_many", "_law_lines_here"] (spOf K S_law_text) :=
  fnD (wb := wb_law_text) F sc_law_text (by decide) hS_law_text fun cdv A outer s G E g0 room => by
    have sc := sc_law_text
    exact (ds_one (ds_ret (de_joinT (de_lc (own := [("_law_line", 2)]) rfl sc.nd (di_seq (de_catL (de_lst (da_cons (de_catS de_str (de_strI rfl bl.str (da_cons (de_v 0) da_nil))) da_nil)) (de_v 1))) (blkOk_by (N := N_law_text) (sc := defScope st_law_text) (own := [("_law_line", 2)]) (by decide +kernel)) (fun _ _ _ _ _ => (dg_name 2 sc.nd)) (fun _ _ _ _ _ => dts_nil) (fun _ _ _ _ _ => (de_catS (de_v 2) de_str))))))
abbrev N_law_number : List Str := ["_law_word_here", "_law_sign"]
theorem sc_law_number : FnScope N_law_number ["_law_word_here"] (defScope st_law_number) := ⟨rfl, rfl, rfl, by decide +kernel, rfl, by decide +kernel, by decide +kernel⟩
theorem ok_law_number {f : Addr} {fd : FuncData} (F : Fun K "_law_number" "_law_number" st_law_number f fd) (bl : Bl mg) : FnG P w K mg base CX0 1 f fd ["_law_word_here"] (spOf K S_law_number) :=
  fnD (wb := wb_law_number) F sc_law_number (by decide) hS_law_number fun cdv A outer s G E g0 room => by
    have sc := sc_law_number
    exact (ds_cons (ds_if (dt_w (dw_or (dt_not (dt_ltlt de_int (de_lenS rfl bl.len (da_cons (de_v 0) da_nil)) de_int)) (dw_or1 (dt_ne room.units (de_lc (own := [("_law_sign", 1)]) rfl sc.nd (di_str (de_v 0)) (blkOk_by (N := N_law_number) (sc := defScope st_law_number) (own := [("_law_sign", 1)]) (by decide +kernel)) (fun _ _ _ _ _ => (dg_name 1 sc.nd)) (fun _ _ _ _ _ => (dts_one (dt_ninSg (de_v 1) de_str))) (fun _ _ _ _ _ => de_int)) (de_lst da_nil))))) (ds_one (ds_ret (de_neg de_int))) ds_nil)
      (ds_one (ds_ret (de_if (dt_w (dw_and (dt_gt (de_lenS rfl bl.len (da_cons (de_v 0) da_nil)) de_int) (dw_and1 (dt_eq room.units (de_ixS (de_v 0) de_int) de_str)))) (de_neg de_int) (de_intS rfl bl.int (da_cons (de_v 0) da_nil))))))
abbrev N_law_headed : List Str := ["_law_text_here", "_law_lines_here", "_law_words"]
theorem sc_law_headed : FnScope N_law_headed ["_law_text_here"] (defScope st_law_headed) := ⟨rfl, rfl, rfl, by decide +kernel, rfl, by decide +kernel, by decide +kernel⟩
theorem ok_law_headed {f : Addr} {fd : FuncData} (F : Fun K "_law_headed" "_law_headed" st_law_headed f fd) (bl : Bl mg) (oi_str : OdI K "str") : FnG P w K mg base CX0 1 f fd ["_law_text_here"] (spOf K S_law_headed) :=
  fnD (wb := wb_law_headed) F sc_law_headed (by decide) hS_law_headed fun cdv A outer s G E g0 room => by
    have sc := sc_law_headed
    exact (ds_cons (ds_if (dt_w (dw_or (dt_not (dt_truth (de_isiA isfA_str oi_str rfl bl.isinstance (de_v 0) rfl bl.str boot_strT))) (dw_or1 (dt_ne room.units (de_sliceS (de_v 0) (do_some (de_neg de_int)) do_none) de_str)))) (ds_one (ds_ret de_non)) ds_nil)
      (ds_cons (ds_set 1 sc.nd (de_split (de_sliceS (de_v 0) do_none (do_some (de_neg de_int)))))
      (ds_cons (ds_set 2 sc.nd (de_split (de_ix (de_v 1) de_int)))
      (ds_cons (ds_if (dt_w (dw_or (dt_ne room.units (de_len rfl bl.len (da_cons (de_v 2) da_nil)) de_int) (dw_or (dt_ne room.units (de_ix (de_v 2) de_int) de_str) (dw_or1 (dt_notin (de_ix (de_v 2) de_int) (de_lst (da_cons de_str (da_cons de_str (da_cons de_str (da_cons de_str (da_cons de_str da_nil))))))))))) (ds_one (ds_ret de_non)) ds_nil)
      (ds_one (ds_ret (de_tup (da_cons (de_intS rfl bl.int (da_cons (de_ix (de_v 2) de_int) da_nil)) (da_cons (de_slice (de_v 1) (do_some de_int) do_none) da_nil)))))))))
abbrev N_law_lines : List Str := ["_law_rules_here", "_law_found", "_law_given", "_law_then", "_law_column"]
theorem sc_law_lines : FnScope N_law_lines ["_law_rules_here"] (defScope st_law_lines) := ⟨rfl, rfl, rfl, by decide +kernel, rfl, by decide +kernel, by decide +kernel⟩
theorem ok_law_lines {f : Addr} {fd : FuncData} (F : Fun K "_law_lines" "_law_lines" st_law_lines f fd) (bl : Bl mg) : FnG P w K mg base CX0 1 f fd ["_law_rules_here"] (spOf K S_law_lines) :=
  fnD (wb := wb_law_lines) F sc_law_lines (by decide) hS_law_lines fun cdv A outer s G E g0 room => by
    have sc := sc_law_lines
    exact (ds_cons (ds_set 1 sc.nd (de_lst da_nil))
      (ds_cons (ds_for PassesOwn.never rfl (di_seq (de_v 0)) (dg_tup rfl (dgs_cons (dg_name 2 sc.nd) (dgs_cons (dg_name 3 sc.nd) dgs_nil))) (ds_one (ds_expr (de_append 1 (de_catS (de_catS (de_joinT (de_lc (own := [("_law_column", 4)]) rfl sc.nd (di_seq (de_v 2)) (blkOk_by (N := N_law_lines) (sc := defScope st_law_lines) (own := [("_law_column", 4)]) (by decide +kernel)) (fun _ _ _ _ _ => (dg_name 4 sc.nd)) (fun _ _ _ _ _ => dts_nil) (fun _ _ _ _ _ => (de_catS (de_strI rfl bl.str (da_cons (de_v 4) da_nil)) de_str)))) de_str) (de_strI rfl bl.str (da_cons (de_v 3) da_nil)))))))
      (ds_one (ds_ret (de_v 1)))))
abbrev N_is_number_set : List Str := ["thing", "low", "high", "number", "behind"]
theorem sc_is_number_set : FnScope N_is_number_set ["thing", "low", "high"] (defScope st_is_number_set) := ⟨rfl, rfl, rfl, by decide +kernel, rfl, by decide +kernel, by decide +kernel⟩
theorem ok_is_number_set {f : Addr} {fd : FuncData} (F : Fun K "is_number_set" "is_number_set" st_is_number_set f fd) (bl : Bl mg) (f_is_number : Fn P w K mg base 1 "is_number" S_is_numberA) (oi_tuple : OdI K "tuple") : FnG P w K mg base CX0 2 f fd ["thing", "low", "high"] (spOf K S_is_number_setA) :=
  fnD (wb := wb_is_number_setA) F sc_is_number_set (by decide) hS_is_number_setA fun cdv A outer s G E g0 room => by
    have sc := sc_is_number_set
    exact (ds_cons (ds_if (dt_w (dw_or (dt_not (dt_truth (de_isiA isfA_tuple oi_tuple rfl bl.isinstance (de_v 0) rfl bl.tuple boot_tupleT))) (dw_or1 (dt_not (dt_truth (de_all rfl rfl bl.all (da_cons (de_lc (own := [("number", 3)]) rfl sc.nd (di_seq (de_v 0)) (blkOk_by (N := N_is_number_set) (sc := defScope st_is_number_set) (own := [("number", 3)]) (by decide +kernel)) (fun _ _ _ _ _ => (dg_name 3 sc.nd)) (fun _ _ _ _ _ => dts_nil) (fun _ _ _ _ _ => (de_callF f_is_number g0 (room.mono (by decide)) rfl (da_cons (de_v 3) (da_cons (de_v 1) (da_cons (de_v 2) da_nil)))))) da_nil))))))) (ds_one (ds_ret de_bl)) ds_nil)
      (ds_one (ds_ret (de_all rfl rfl bl.all (da_cons (de_lc (own := [("number", 3), ("behind", 4)]) rfl sc.nd (di_zip rfl bl.zip (da_cons (de_v 0) (da_cons (de_slice (de_v 0) (do_some de_int) do_none) da_nil))) (blkOk_by (N := N_is_number_set) (sc := defScope st_is_number_set) (own := [("number", 3), ("behind", 4)]) (by decide +kernel)) (fun _ _ _ _ _ => (dg_tup rfl (dgs_cons (dg_name 3 sc.nd) (dgs_cons (dg_name 4 sc.nd) dgs_nil)))) (fun _ _ _ _ _ => dts_nil) (fun _ _ _ _ _ => (de_lt (de_v 3) (de_v 4)))) da_nil)))))
abbrev N_is_many : List Str := ["thing"]
theorem sc_is_many : FnScope N_is_many ["thing"] (defScope st_is_many) := ⟨rfl, rfl, rfl, by decide +kernel, rfl, by decide +kernel, by decide +kernel⟩
theorem ok_is_many {f : Addr} {fd : FuncData} {t_MOST_COLUMNS : Tok} (F : Fun K "is_many" "is_many" st_is_many f fd) (bl : Bl mg) (c_MOST_COLUMNS : mg "MOST_COLUMNS" = some (.int 5 t_MOST_COLUMNS)) (f_is_number : Fn P w K mg base 1 "is_number" S_is_numberA) : FnG P w K mg base CX0 2 f fd ["thing"] (spOf K S_is_manyA) :=
  fnD (wb := wb_is_manyA) F sc_is_many (by decide) hS_is_manyA fun cdv A outer s G E g0 room => by
    have sc := sc_is_many
    exact (ds_one (ds_ret (de_callF f_is_number g0 (room.mono (by decide)) rfl (da_cons (de_v 0) (da_cons de_int (da_cons (de_globI rfl c_MOST_COLUMNS) da_nil))))))
abbrev N_is_column : List Str := ["many", "thing"]
theorem sc_is_column : FnScope N_is_column ["many", "thing"] (defScope st_is_column) := ⟨rfl, rfl, rfl, by decide +kernel, rfl, by decide +kernel, by decide +kernel⟩
theorem ok_is_column {f : Addr} {fd : FuncData} (F : Fun K "is_column" "is_column" st_is_column f fd) (bl : Bl mg) (f_is_number : Fn P w K mg base 1 "is_number" S_is_numberA) : FnG P w K mg base CX0 2 f fd ["many", "thing"] (spOf K S_is_columnA) :=
  fnD (wb := wb_is_columnA) F sc_is_column (by decide) hS_is_columnA fun cdv A outer s G E g0 room => by
    have sc := sc_is_column
    exact (ds_one (ds_ret (de_callF f_is_number g0 (room.mono (by decide)) rfl (da_cons (de_v 1) (da_cons de_int (da_cons (de_sub (de_v 0) de_int) da_nil))))))
abbrev N_read_rule : List Str := ["line", "words", "word"]
theorem sc_read_rule : FnScope N_read_rule ["line"] (defScope st_read_rule) := ⟨rfl, rfl, rfl, by decide +kernel, rfl, by decide +kernel, by decide +kernel⟩
theorem ok_read_rule {f : Addr} {fd : FuncData} (F : Fun K "read_rule" "read_rule" st_read_rule f fd) (bl : Bl mg) (f_read_number : Fn P w K mg base 1 "read_number" S_read_number) : FnG P w K mg base CX0 2 f fd ["line"] (spOf K S_read_rule) :=
  fnD (wb := wb_read_rule) F sc_read_rule (by decide) hS_read_rule fun cdv A outer s G E g0 room => by
    have sc := sc_read_rule
    exact (ds_cons (ds_set 1 sc.nd (de_split (de_v 0)))
      (ds_cons (ds_if (dt_w (dw_or (dt_lt (de_len rfl bl.len (da_cons (de_v 1) da_nil)) de_int) (dw_or1 (dt_ne room.units (de_ix (de_v 1) (de_neg de_int)) de_str)))) (ds_one (ds_ret de_non)) ds_nil)
      (ds_one (ds_ret (de_tup (da_cons (de_tuple rfl bl.tuple (da_cons (de_lc (own := [("word", 2)]) rfl sc.nd (di_seq (de_slice (de_v 1) do_none (do_some (de_neg de_int)))) (blkOk_by (N := N_read_rule) (sc := defScope st_read_rule) (own := [("word", 2)]) (by decide +kernel)) (fun _ _ _ _ _ => (dg_name 2 sc.nd)) (fun _ _ _ _ _ => dts_nil) (fun _ _ _ _ _ => (de_callF f_read_number g0 (room.mono (by decide)) rfl (da_cons (de_v 2) da_nil)))) da_nil)) (da_cons (de_callF f_read_number g0 (room.mono (by decide)) rfl (da_cons (de_ix (de_v 1) (de_neg de_int)) da_nil)) da_nil)))))))
abbrev N_law_rule : List Str := ["_law_pen_here", "_law_many", "_law_then", "_law_others", "_law_size", "_law_given", "_law_lap", "_law_column"]
theorem sc_law_rule : FnScope N_law_rule ["_law_pen_here", "_law_many"] (defScope st_law_rule) := ⟨rfl, rfl, rfl, by decide +kernel, rfl, by decide +kernel, by decide +kernel⟩
theorem ok_law_rule {f : Addr} {fd : FuncData} (F : Fun K "_law_rule" "_law_rule" st_law_rule f fd) (bl : Bl mg) (f_law_draw : Fn P w K mg base 1 "_law_draw" S_law_draw) : FnG P w K mg base CX0 2 f fd ["_law_pen_here", "_law_many"] (spOf K S_law_rule) :=
  fnD (wb := wb_law_rule) F sc_law_rule (by decide) hS_law_rule fun cdv A outer s G E g0 room => by
    have sc := sc_law_rule
    exact (ds_cons (ds_set 2 sc.nd (de_callOF 0 f_law_draw g0 (room.mono (by decide)) rfl (da_cons (de_v 1) da_nil)))
      (ds_cons (ds_setLc (own := [("_law_column", 7)]) 3 rfl sc.nd (di_range1 rfl bl.range (da_cons (de_v 1) da_nil)) (blkOk_by (N := N_law_rule) (sc := defScope st_law_rule) (own := [("_law_column", 7)]) (by decide +kernel)) (fun _ _ _ _ _ => (dg_name 7 sc.nd)) (fun _ _ _ _ _ => (dts_one (dt_ne room.units (de_v 7) (de_v 2)))) (fun _ _ _ _ _ => (de_v 7)))
      (ds_cons (ds_set 4 sc.nd (de_ix (de_lst (da_cons de_int (da_cons de_int (da_cons de_int (da_cons de_int (da_cons de_int (da_cons de_int (da_cons de_int da_nil)))))))) (de_callOF 0 f_law_draw g0 (room.mono (by decide)) rfl (da_cons de_int da_nil))))
      (ds_cons (ds_set 5 sc.nd (de_lst da_nil))
      (ds_cons (ds_for PassesOwn.never rfl (di_range1 rfl bl.range (da_cons (de_min2 rfl rfl bl.min (da_cons (de_v 4) (da_cons (de_len rfl bl.len (da_cons (de_v 3) da_nil)) da_nil))) da_nil)) (dg_name 6 sc.nd) (ds_one (ds_expr (de_append 5 (de_popAt 3 (de_callOF 0 f_law_draw g0 (room.mono (by decide)) rfl (da_cons (de_len rfl bl.len (da_cons (de_v 3) da_nil)) da_nil)))))))
      (ds_one (ds_ret (de_tup (da_cons (de_tuple rfl bl.tuple (da_cons (de_sorted rfl bl.sorted (da_cons (de_v 5) da_nil)) da_nil)) (da_cons (de_v 2) da_nil))))))))))
abbrev N_law_no_rules : List Str := ["_law_many", "_law_found", "_law_rule_here"]
theorem sc_law_no_rules : FnScope N_law_no_rules ["_law_many"] (defScope st_law_no_rules) := ⟨rfl, rfl, rfl, by decide +kernel, rfl, by decide +kernel, by decide +kernel⟩
theorem ok_law_no_rules {f : Addr} {fd : FuncData} (F : Fun K "_law_no_rules" "_law_no_rules" st_law_no_rules f fd) (bl : Bl mg) (f_law_no_rule : Fn P w K mg base 1 "_law_no_rule" S_law_no_rule) : FnG P w K mg base CX0 2 f fd ["_law_many"] (spOf K S_law_no_rules) :=
  fnD (wb := wb_law_no_rules) F sc_law_no_rules (by decide) hS_law_no_rules fun cdv A outer s G E g0 room => by
    have sc := sc_law_no_rules
    exact (ds_cons (ds_set 1 sc.nd (de_lst (da_cons de_non (da_cons de_int (da_cons de_str (da_cons de_str (da_cons (de_lst da_nil) (da_cons de_nil (da_cons (de_lst (da_cons (de_tup (da_cons (de_tup da_nil) (da_cons de_int da_nil))) da_nil)) (da_cons (de_tup (da_cons (de_tup da_nil) (da_cons de_int da_nil))) (da_cons (de_tmulA (de_tup (da_cons (de_tup (da_cons (de_tup da_nil) (da_cons de_int da_nil))) da_nil)) de_int) da_nil)))))))))))
      (ds_one (ds_ret (de_catL (de_v 1) (de_lc (own := [("_law_rule_here", 2)]) rfl sc.nd (di_seq (de_callF f_law_no_rule g0 (room.mono (by decide)) rfl (da_cons (de_v 0) da_nil))) (blkOk_by (N := N_law_no_rules) (sc := defScope st_law_no_rules) (own := [("_law_rule_here", 2)]) (by decide +kernel)) (fun _ _ _ _ _ => (dg_name 2 sc.nd)) (fun _ _ _ _ _ => dts_nil) (fun _ _ _ _ _ => (de_tup (da_cons (de_tup (da_cons (de_tup da_nil) (da_cons de_int da_nil))) (da_cons (de_v 2) da_nil)))))))))
abbrev N_law_near : List Str := ["_law_pen_here", "_law_text_here", "_law_lines_here", "_law_line", "_law_found", "_law_at", "_law_sign"]
theorem sc_law_near : FnScope N_law_near ["_law_pen_here", "_law_text_here"] (defScope st_law_near) := ⟨rfl, rfl, rfl, by decide +kernel, rfl, by decide +kernel, by decide +kernel⟩
theorem ok_law_near {f : Addr} {fd : FuncData} (F : Fun K "_law_near" "_law_near" st_law_near f fd) (bl : Bl mg) (f_law_draw : Fn P w K mg base 1 "_law_draw" S_law_draw) : FnG P w K mg base CX0 2 f fd ["_law_pen_here", "_law_text_here"] (spOf K S_law_near) :=
  fnD (wb := wb_law_near) F sc_law_near (by decide) hS_law_near fun cdv A outer s G E g0 room => by
    have sc := sc_law_near
    exact (dss_k (ds1_par 5 6 rfl sc.nd (de_callOF 0 f_law_draw g0 (room.mono (by decide)) rfl (da_cons (de_lenS rfl bl.len (da_cons (de_v 1) da_nil)) da_nil)) (de1_ixS de1_str (de_callOF 0 f_law_draw g0 (room.mono (by decide)) rfl (da_cons de_int da_nil))))
      (dssk_cons (DS.kk (ds_set 2 sc.nd (de_split (de_sliceS (de_v 1) do_none (do_some (de_neg de_int))))))
      (dssk_cons (DS.kk (ds_set 3 sc.nd (de_ix (de_v 2) (de_callOF 0 f_law_draw g0 (room.mono (by decide)) rfl (da_cons (de_len rfl bl.len (da_cons (de_v 2) da_nil)) da_nil)))))
      (dssk_cons (DS.kk (ds_set 4 sc.nd (de_lst (da_cons (de_catS (de_sliceS (de_v 1) do_none (do_some (de_v 5))) (de_sliceS (de_v 1) (do_some (de_add (de_v 5) de_int)) do_none)) (da_cons (de_catS (de_catS (de_sliceS (de_v 1) do_none (do_some (de_v 5))) (de_v 6)) (de_sliceS (de_v 1) (do_some (de_v 5)) do_none)) da_nil)))))
      (dssk_cons (DS.kk (ds_set 4 sc.nd (de_catL (de_v 4) (de_lst (da_cons (de_catS (de_catS (de_sliceS (de_v 1) do_none (do_some (de_v 5))) (de_v 6)) (de_sliceS (de_v 1) (do_some (de_add (de_v 5) de_int)) do_none)) (da_cons (de_sliceS (de_v 1) do_none (do_some (de_neg de_int))) (da_cons (de_catS (de_v 1) de_str) (da_cons (de_catS (de_catS (de_v 1) (de_v 3)) de_str) da_nil))))))))
      (dssk_cons (dsk_set 4 sc.nd (dek_catL (DE.kk (de_v 4)) (dek_lst (dak_cons (DE.kk (de_catS de_str (de_v 1))) (dak_cons (DE.kk (de_upper (de_v 1))) (dak_cons (DE.kk (de_catS (de_v 1) de_str)) (dak_cons (dek_repl (de_v 1)) (dak_cons (DE.kk (de_tup (da_cons (de_v 1) da_nil))) (dak_cons (DE.kk (de_lst (da_cons (de_v 1) da_nil))) dak_nil)))))))))
      (dssk_cons (dsk_set 4 sc.nd (dek_catL (DE.kk (de_v 4)) (dek_lst (dak_cons (DE.kk (de_catS (de_joinT (de_catL (de_slice (de_v 2) (do_some de_int) do_none) (de_slice (de_v 2) do_none (do_some de_int)))) de_str)) (dak_cons (dek_repl (de_v 1)) dak_nil)))))
      (dssk_cons (dsk_set 4 sc.nd (dek_catL (DE.kk (de_v 4)) (dek_lst (dak_cons (dek_repl (de_v 1)) (dak_cons (DE.kk (de_sliceS (de_v 1) (do_some (de_add (de_lenS rfl bl.len (da_cons (de_ix (de_v 2) de_int) da_nil)) de_int)) do_none)) (dak_cons (DE.kk de_non) (dak_cons (DE.kk de_int) (dak_cons (DE.kk de_bl) dak_nil))))))))
      (DSs.kk (ds_one (ds_ret (de_catL (de_v 4) (de_lst (da_cons de_str (da_cons de_str (da_cons de_str (da_cons de_str (da_cons de_str (da_cons de_str (da_cons de_nil da_nil))))))))))))))))))))
abbrev N_law_parsed : List Str := ["_law_text_here", "_law_told", "_law_found", "_law_line", "_law_words", "_law_numbers", "_law_word_here", "_law_one"]
theorem sc_law_parsed : FnScope N_law_parsed ["_law_text_here"] (defScope st_law_parsed) := ⟨rfl, rfl, rfl, by decide +kernel, rfl, by decide +kernel, by decide +kernel⟩
theorem ok_law_parsed {f : Addr} {fd : FuncData} (F : Fun K "_law_parsed" "_law_parsed" st_law_parsed f fd) (bl : Bl mg) (f_law_headed : Fn P w K mg base 1 "_law_headed" S_law_headed) (f_law_number : Fn P w K mg base 1 "_law_number" S_law_number) : FnG P w K mg base CX0 2 f fd ["_law_text_here"] (spOf K S_law_parsed) :=
  fnD (wb := wb_law_parsed) F sc_law_parsed (by decide) hS_law_parsed fun cdv A outer s G E g0 room => by
    have sc := sc_law_parsed
    exact (ds_cons (ds_set 1 sc.nd (de_callF f_law_headed g0 (room.mono (by decide)) rfl (da_cons (de_v 0) da_nil)))
      (ds_cons (ds_if (dt_w (dw_or (dt_is (de_v 1) de_non) (dw_or1 (dt_gt (de_len rfl bl.len (da_cons (de_ix (de_v 1) de_int) da_nil)) de_int)))) (ds_one (ds_ret de_non)) ds_nil)
      (ds_cons (ds_set 2 sc.nd (de_lst da_nil))
      (ds_cons (ds_for PassesOwn.never rfl (di_seq (de_ix (de_v 1) de_int)) (dg_name 3 sc.nd) (ds_cons (ds_set 4 sc.nd (de_split (de_v 3)))
      (ds_cons (ds_setLcD (own := [("_law_word_here", 6)]) 5 rfl sc.nd (di_seq (de_catL (de_slice (de_v 4) do_none (do_some (de_neg de_int))) (de_slice (de_v 4) (do_some (de_neg de_int)) do_none))) (blkOk_by (N := N_law_parsed) (sc := defScope st_law_parsed) (own := [("_law_word_here", 6)]) (by decide +kernel)) (fun _ _ _ _ _ => (dg_name 6 sc.nd)) (fun _ _ _ _ _ => dts_nil) (fun _ _ _ _ _ => (de_callF f_law_number g0 (room.mono (by decide)) rfl (da_cons (de_v 6) da_nil))))
      (ds_cons (ds_if (dt_w (dw_or (dt_lt (de_len rfl bl.len (da_cons (de_v 4) da_nil)) de_int) (dw_or1 (dt_ne room.units (de_ix (de_v 4) (de_neg de_int)) de_str)))) (ds_one (ds_ret de_non)) ds_nil)
      (ds_cons (ds_if (dt_ne room.units (de_lc (own := [("_law_one", 7)]) rfl sc.nd (di_seq (de_v 5)) (blkOk_by (N := N_law_parsed) (sc := defScope st_law_parsed) (own := [("_law_one", 7)]) (by decide +kernel)) (fun _ _ _ _ _ => (dg_name 7 sc.nd)) (fun _ _ _ _ _ => (dts_one (dt_not (dt_lelt de_int (de_v 7) (de_ix (de_v 1) de_int))))) (fun _ _ _ _ _ => de_int)) (de_lst da_nil)) (ds_one (ds_ret de_non)) ds_nil)
      (ds_cons (ds_if (dt_w (dw_or (dt_in (de_ix (de_v 5) (de_neg de_int)) (de_slice (de_v 5) do_none (do_some (de_neg de_int)))) (dw_or1 (dt_ne room.units (de_sortedSetF rfl rfl bl.sorted rfl bl.set (de_slice (de_v 5) do_none (do_some (de_neg de_int)))) (de_slice (de_v 5) do_none (do_some (de_neg de_int))))))) (ds_one (ds_ret de_non)) ds_nil)
      (ds_one (ds_expr (de_append 2 (de_tup (da_cons (de_tuple rfl bl.tuple (da_cons (de_slice (de_v 5) do_none (do_some (de_neg de_int))) da_nil)) (da_cons (de_ix (de_v 5) (de_neg de_int)) da_nil))))))))))))
      (ds_one (ds_ret (de_tup (da_cons (de_ix (de_v 1) de_int) (da_cons (de_tuple rfl bl.tuple (da_cons (de_v 2) da_nil)) da_nil)))))))))
abbrev N_are_columns : List Str := ["many", "thing"]
theorem sc_are_columns : FnScope N_are_columns ["many", "thing"] (defScope st_are_columns) := ⟨rfl, rfl, rfl, by decide +kernel, rfl, by decide +kernel, by decide +kernel⟩
theorem ok_are_columns {f : Addr} {fd : FuncData} (F : Fun K "are_columns" "are_columns" st_are_columns f fd) (bl : Bl mg) (f_is_number_set : Fn P w K mg base 2 "is_number_set" S_is_number_setA) : FnG P w K mg base CX0 3 f fd ["many", "thing"] (spOf K S_are_columnsA) :=
  fnD (wb := wb_are_columnsA) F sc_are_columns (by decide) hS_are_columnsA fun cdv A outer s G E g0 room => by
    have sc := sc_are_columns
    exact (ds_one (ds_ret (de_callF f_is_number_set g0 (room.mono (by decide)) rfl (da_cons (de_v 1) (da_cons de_int (da_cons (de_sub (de_v 0) de_int) da_nil))))))
abbrev N_need_manyX : List Str := ["thing"]
theorem sc_need_manyX : FnScope N_need_manyX ["thing"] (defScope st_need_manyX) := ⟨rfl, rfl, rfl, by decide +kernel, rfl, by decide +kernel, by decide +kernel⟩
theorem ok_need_manyX {f : Addr} {fd : FuncData} {C_NoMany : Addr} (F : Fun K "need_many" "need_many" st_need_manyX f fd) (bl : Bl mg) (x_NoMany : ExcAt K mg "NoMany" C_NoMany) (f_is_many : Fn P w K mg base 2 "is_many" S_is_manyA) : FnG P w K mg base (L2.CX P w) 3 f fd ["thing"] (spX K mg S_need_manyX) :=
  fnDX (wb := wb_need_manyX) F sc_need_manyX (by decide) hS_need_manyX fun cdv A outer s G E g0 room tk po => by
    have sc := sc_need_manyX
    exact (dsx_one (dsx_if (dt_not (dt_truth (de_callF f_is_many g0 (room.mono (by decide)) rfl (da_cons (de_v 0) da_nil)))) (dsx_one (dsx_raise rfl tk ve_base x_NoMany rfl)) (dssx_pure ds_nil)))
abbrev N_read_manyX : List Str := ["line", "words", "many"]
theorem sc_read_manyX : FnScope N_read_manyX ["line"] (defScope st_read_manyX) := ⟨rfl, rfl, rfl, by decide +kernel, rfl, by decide +kernel, by decide +kernel⟩
theorem ok_read_manyX {f : Addr} {fd : FuncData} {C_NoText : Addr} (F : Fun K "read_many" "read_many" st_read_manyX f fd) (bl : Bl mg) (x_NoText : ExcAt K mg "NoText" C_NoText) (f_read_number : Fn P w K mg base 1 "read_number" S_read_number) (f_is_many : Fn P w K mg base 2 "is_many" S_is_manyA) : FnG P w K mg base (L2.CX P w) 3 f fd ["line"] (spX K mg S_read_manyX) :=
  fnDX (wb := wb_read_manyX) F sc_read_manyX (by decide) hS_read_manyX fun cdv A outer s G E g0 room tk po => by
    have sc := sc_read_manyX
    exact (dsx_cons (dsx_pure (ds_set 1 sc.nd (de_split (de_v 0))))
      (dsx_cons (dsx_if (dt_w (dw_or (dt_ne room.units (de_len rfl bl.len (da_cons (de_v 1) da_nil)) de_int) (dw_or1 (dt_ne room.units (de_ix (de_v 1) de_int) de_str)))) (dsx_one (dsx_raise rfl tk ve_base x_NoText rfl)) (dssx_pure ds_nil))
      (dsx_cons (dsx_pure (ds_set 2 sc.nd (de_callF f_read_number g0 (room.mono (by decide)) rfl (da_cons (de_ix (de_v 1) de_int) da_nil))))
      (dsx_cons (dsx_if (dt_not (dt_truth (de_callF f_is_many g0 (room.mono (by decide)) rfl (da_cons (de_v 2) da_nil)))) (dsx_one (dsx_raise rfl tk ve_base x_NoText rfl)) (dssx_pure ds_nil))
      (dsx_one (dsx_pure (ds_ret (de_v 2))))))))
abbrev N_law_rules : List Str := ["_law_pen_here", "_law_many", "_law_most", "_law_lap"]
theorem sc_law_rules : FnScope N_law_rules ["_law_pen_here", "_law_many", "_law_most"] (defScope st_law_rules) := ⟨rfl, rfl, rfl, by decide +kernel, rfl, by decide +kernel, by decide +kernel⟩
theorem ok_law_rules {f : Addr} {fd : FuncData} (F : Fun K "_law_rules" "_law_rules" st_law_rules f fd) (bl : Bl mg) (f_law_rule : Fn P w K mg base 2 "_law_rule" S_law_rule) (f_law_draw : Fn P w K mg base 1 "_law_draw" S_law_draw) : FnG P w K mg base CX0 3 f fd ["_law_pen_here", "_law_many", "_law_most"] (spOf K S_law_rules) :=
  fnD (wb := wb_law_rules) F sc_law_rules (by decide) hS_law_rules fun cdv A outer s G E g0 room => by
    have sc := sc_law_rules
    exact (ds_one (ds_ret (de_tuple rfl bl.tuple (da_cons (de_lc (own := [("_law_lap", 3)]) rfl sc.nd (di_range1 rfl bl.range (da_cons (de_callOF 0 f_law_draw g0 (room.mono (by decide)) rfl (da_cons (de_add (de_v 2) de_int) da_nil)) da_nil)) (blkOk_by (N := N_law_rules) (sc := defScope st_law_rules) (own := [("_law_lap", 3)]) (by decide +kernel)) (fun _ _ _ _ _ => (dg_name 3 sc.nd)) (fun _ _ _ _ _ => dts_nil) (fun _ _ _ _ _ => (de_callOF 0 f_law_rule g0 (room.mono (by decide)) rfl (da_cons (de_v 1) da_nil)))) da_nil))))
abbrev N_is_rule : List Str := ["many", "thing", "given", "then"]
theorem sc_is_rule : FnScope N_is_rule ["many", "thing"] (defScope st_is_rule) := ⟨rfl, rfl, rfl, by decide +kernel, rfl, by decide +kernel, by decide +kernel⟩
theorem ok_is_rule {f : Addr} {fd : FuncData} (F : Fun K "is_rule" "is_rule" st_is_rule f fd) (bl : Bl mg) (f_are_columns : Fn P w K mg base 3 "are_columns" S_are_columnsA) (f_is_column : Fn P w K mg base 2 "is_column" S_is_columnA) (oi_tuple : OdI K "tuple") : FnG P w K mg base CX0 4 f fd ["many", "thing"] (spOf K S_is_ruleA) :=
  fnD (wb := wb_is_ruleA) F sc_is_rule (by decide) hS_is_ruleA fun cdv A outer s G E g0 room => by
    have sc := sc_is_rule
    exact (ds_cons (ds_if (dt_w (dw_or (dt_not (dt_truth (de_isiA isfA_tuple oi_tuple rfl bl.isinstance (de_v 1) rfl bl.tuple boot_tupleT))) (dw_or1 (dt_ne room.units (de_len rfl bl.len (da_cons (de_v 1) da_nil)) de_int)))) (ds_one (ds_ret de_bl)) ds_nil)
      (ds_cons (ds_asg (de_v 1) (dg_tup rfl (dgs_cons (dg_name 2 sc.nd) (dgs_cons (dg_name 3 sc.nd) dgs_nil))))
      (ds_one (ds_ret (de_and (de_callF f_are_columns g0 (room.mono (by decide)) rfl (da_cons (de_v 0) (da_cons (de_v 2) da_nil))) (de_and (de_callF f_is_column g0 (room.mono (by decide)) rfl (da_cons (de_v 0) (da_cons (de_v 3) da_nil))) (de_one (de_notin (de_v 3) (de_v 2)))))))))
abbrev N_law_case : List Str := ["_law_pen_here", "_law_many"]
theorem sc_law_case : FnScope N_law_case ["_law_pen_here"] (defScope st_law_case) := ⟨rfl, rfl, rfl, by decide +kernel, rfl, by decide +kernel, by decide +kernel⟩
theorem ok_law_case {f : Addr} {fd : FuncData} (F : Fun K "_law_case" "_law_case" st_law_case f fd) (bl : Bl mg) (f_law_draw : Fn P w K mg base 1 "_law_draw" S_law_draw) (f_law_rules : Fn P w K mg base 3 "_law_rules" S_law_rules) : FnG P w K mg base CX0 4 f fd ["_law_pen_here"] (spOf K S_law_case) :=
  fnD (wb := wb_law_case) F sc_law_case (by decide) hS_law_case fun cdv A outer s G E g0 room => by
    have sc := sc_law_case
    exact (ds_cons (ds_set 1 sc.nd (de_add de_int (de_callOF 0 f_law_draw g0 (room.mono (by decide)) rfl (da_cons de_int da_nil))))
      (ds_one (ds_ret (de_tup (da_cons (de_v 1) (da_cons (de_callOF 0 f_law_rules g0 (room.mono (by decide)) rfl (da_cons (de_v 1) (da_cons de_int da_nil))) da_nil))))))
abbrev N_are_rulesX : List Str := ["many", "thing", "rule"]
theorem sc_are_rulesX : FnScope N_are_rulesX ["many", "thing"] (defScope st_are_rulesX) := ⟨rfl, rfl, rfl, by decide +kernel, rfl, by decide +kernel, by decide +kernel⟩
theorem ok_are_rulesX {f : Addr} {fd : FuncData} {t_MOST_RULES : Tok} (F : Fun K "are_rules" "are_rules" st_are_rulesX f fd) (bl : Bl mg) (c_MOST_RULES : mg "MOST_RULES" = some (.int 8 t_MOST_RULES)) (f_need_manyX : FnX P w K mg base 3 "need_many" S_need_manyX) (f_is_rule : Fn P w K mg base 4 "is_rule" S_is_ruleA) (oi_tuple : OdI K "tuple") : FnG P w K mg base (L2.CX P w) 5 f fd ["many", "thing"] (spX K mg S_are_rulesX) :=
  fnDX (wb := wb_are_rulesX) F sc_are_rulesX (by decide) hS_are_rulesX fun cdv A outer s G E g0 room tk po => by
    have sc := sc_are_rulesX
    exact (dsx_cons (dsx_expr (dx_call tk f_need_manyX g0 (room.mono (by decide)) rfl (dax_pure (da_cons (de_v 0) da_nil))))
      (dsx_one (dsx_pure (ds_ret (de_and (de_isiA isfA_tuple oi_tuple rfl bl.isinstance (de_v 1) rfl bl.tuple boot_tupleT) (de_and (de_le (de_len rfl bl.len (da_cons (de_v 1) da_nil)) (de_globI rfl c_MOST_RULES)) (de_one (de_all rfl rfl bl.all (da_cons (de_lc (own := [("rule", 2)]) rfl sc.nd (di_seq (de_v 1)) (blkOk_by (N := N_are_rulesX) (sc := defScope st_are_rulesX) (own := [("rule", 2)]) (by decide +kernel)) (fun _ _ _ _ _ => (dg_name 2 sc.nd)) (fun _ _ _ _ _ => dts_nil) (fun _ _ _ _ _ => (de_callF f_is_rule g0 (room.mono (by decide)) rfl (da_cons (de_v 0) (da_cons (de_v 2) da_nil))))) da_nil)))))))))
abbrev N_need_rulesX : List Str := ["many", "thing"]
theorem sc_need_rulesX : FnScope N_need_rulesX ["many", "thing"] (defScope st_need_rulesX) := ⟨rfl, rfl, rfl, by decide +kernel, rfl, by decide +kernel, by decide +kernel⟩
theorem ok_need_rulesX {f : Addr} {fd : FuncData} {C_NoRules : Addr} (F : Fun K "need_rules" "need_rules" st_need_rulesX f fd) (bl : Bl mg) (x_NoRules : ExcAt K mg "NoRules" C_NoRules) (f_are_rulesX : FnX P w K mg base 5 "are_rules" S_are_rulesX) : FnG P w K mg base (L2.CX P w) 6 f fd ["many", "thing"] (spX K mg S_need_rulesX) :=
  fnDX (wb := wb_need_rulesX) F sc_need_rulesX (by decide) hS_need_rulesX fun cdv A outer s G E g0 room tk po => by
    have sc := sc_need_rulesX
    exact (dsx_one (dsx_if (dt_not (dt_truth (de_callX0 f_are_rulesX g0 (room.mono (by decide)) rfl (da_cons (de_v 0) (da_cons (de_v 1) da_nil))))) (dsx_one (dsx_raise rfl tk ve_base x_NoRules rfl)) (dssx_pure ds_nil)))
abbrev N_read_rulesX : List Str := ["text", "lines", "many", "rules", "line"]
theorem sc_read_rulesX : FnScope N_read_rulesX ["text"] (defScope st_read_rulesX) := ⟨rfl, rfl, rfl, by decide +kernel, rfl, by decide +kernel, by decide +kernel⟩
theorem ok_read_rulesX {f : Addr} {fd : FuncData} {C_NoText : Addr} (F : Fun K "read_rules" "read_rules" st_read_rulesX f fd) (bl : Bl mg) (x_NoText : ExcAt K mg "NoText" C_NoText) (f_text_linesX : FnX P w K mg base 1 "text_lines" S_text_linesX) (f_read_manyX : FnX P w K mg base 3 "read_many" S_read_manyX) (f_are_rulesX : FnX P w K mg base 5 "are_rules" S_are_rulesX) (f_read_rule : Fn P w K mg base 2 "read_rule" S_read_rule) : FnG P w K mg base (L2.CX P w) 6 f fd ["text"] (spX K mg S_read_rulesX) :=
  fnDX (wb := wb_read_rulesX) F sc_read_rulesX (by decide) hS_read_rulesX fun cdv A outer s G E g0 room tk po => by
    have sc := sc_read_rulesX
    exact (dsx_cons (dsx_set 1 sc.nd (dx_call tk f_text_linesX g0 (room.mono (by decide)) rfl (dax_pure (da_cons (de_v 0) da_nil))))
      (dsx_cons (dsx_set 2 sc.nd (dx_call tk f_read_manyX g0 (room.mono (by decide)) rfl (dax_pure (da_cons (de_ix (de_v 1) de_int) da_nil))))
      (dsx_cons (dsx_pure (ds_set 3 sc.nd (de_tuple rfl bl.tuple (da_cons (de_lc (own := [("line", 4)]) rfl sc.nd (di_seq (de_slice (de_v 1) (do_some de_int) do_none)) (blkOk_by (N := N_read_rulesX) (sc := defScope st_read_rulesX) (own := [("line", 4)]) (by decide +kernel)) (fun _ _ _ _ _ => (dg_name 4 sc.nd)) (fun _ _ _ _ _ => dts_nil) (fun _ _ _ _ _ => (de_callF f_read_rule g0 (room.mono (by decide)) rfl (da_cons (de_v 4) da_nil)))) da_nil))))
      (dsx_cons (dsx_if (dt_not (dt_truth (de_callX0 f_are_rulesX g0 (room.mono (by decide)) rfl (da_cons (de_v 2) (da_cons (de_v 3) da_nil))))) (dsx_one (dsx_raise rfl tk ve_base x_NoText rfl)) (dssx_pure ds_nil))
      (dsx_one (dsx_pure (ds_ret (de_tup (da_cons (de_v 2) (da_cons (de_v 3) da_nil))))))))))
abbrev N_rules_textX : List Str := ["many", "rules", "rule"]
theorem sc_rules_textX : FnScope N_rules_textX ["many", "rules"] (defScope st_rules_textX) := ⟨rfl, rfl, rfl, by decide +kernel, rfl, by decide +kernel, by decide +kernel⟩
theorem ok_rules_textX {f : Addr} {fd : FuncData} (F : Fun K "rules_text" "rules_text" st_rules_textX f fd) (bl : Bl mg) (f_need_manyX : FnX P w K mg base 3 "need_many" S_need_manyX) (f_need_rulesX : FnX P w K mg base 6 "need_rules" S_need_rulesX) (f_columns_line : Fn P w K mg base 1 "columns_line" S_columns_line) (f_rule_line : Fn P w K mg base 1 "rule_line" S_rule_line) : FnG P w K mg base (L2.CX P w) 7 f fd ["many", "rules"] (spX K mg S_rules_textX) :=
  fnDX (wb := wb_rules_textX) F sc_rules_textX (by decide) hS_rules_textX fun cdv A outer s G E g0 room tk po => by
    have sc := sc_rules_textX
    exact (dsx_cons (dsx_expr (dx_call tk f_need_manyX g0 (room.mono (by decide)) rfl (dax_pure (da_cons (de_v 0) da_nil))))
      (dsx_cons (dsx_expr (dx_call tk f_need_rulesX g0 (room.mono (by decide)) rfl (dax_pure (da_cons (de_v 0) (da_cons (de_v 1) da_nil)))))
      (dsx_one (dsx_pure (ds_ret (de_catS (de_callF f_columns_line g0 (room.mono (by decide)) rfl (da_cons (de_v 0) da_nil)) (de_joinT (de_lc (own := [("rule", 2)]) rfl sc.nd (di_seq (de_v 1)) (blkOk_by (N := N_rules_textX) (sc := defScope st_rules_textX) (own := [("rule", 2)]) (by decide +kernel)) (fun _ _ _ _ _ => (dg_name 2 sc.nd)) (fun _ _ _ _ _ => dts_nil) (fun _ _ _ _ _ => (de_callF f_rule_line g0 (room.mono (by decide)) rfl (da_cons (de_v 2) da_nil)))))))))))
abbrev N_Sheet_init : List Str := ["self", "many", "rules"]
theorem sc_Sheet_init : FnScope N_Sheet_init ["self", "many", "rules"] (defScope st_Sheet_init) := ⟨rfl, rfl, rfl, by decide +kernel, rfl, by decide +kernel, by decide +kernel⟩
theorem ok_Sheet_init {f : Addr} {fd : FuncData} (F : Fun K "__init__" "Sheet.__init__" st_Sheet_init f fd) (hb : ∀ us rest : List Value, us.length = 2 → bindArgs fd ⟨us ++ rest, []⟩ = (newTuple rest >>= fun t => pure ((["self", "many"] : List Str).zip us ++ [(("rules" : Str), t)]))) (bl : Bl mg) (f_need_manyX : FnX P w K mg base 3 "need_many" S_need_manyX) (f_need_rulesX : FnX P w K mg base 6 "need_rules" S_need_rulesX) (cf : ClsF K NS FL) : FnRG P w K mg base CX0 7 f (spIniA K S_Sheet_initN) :=
  fnIni (N := N_Sheet_init) (ps := ["self", "many"]) (pv := "rules") (wb := wb_Sheet_initN) F sc_Sheet_init rfl hb hS_Sheet_initN fun cdv A outer s G E g0 room => by
    have sc := sc_Sheet_init
    exact (ds_cons (ds_expr (de_callX0 f_need_manyX g0 (room.mono (by decide)) rfl (da_cons (de_v 1) da_nil)))
      (ds_cons (ds_expr (de_callX0 f_need_rulesX g0 (room.mono (by decide)) rfl (da_cons (de_v 1) (da_cons (de_v 2) da_nil))))
      (ds_cons (ds_putF 0 cf (by decide) (de_v 1))
      (ds_cons (ds_putF 0 cf (by decide) (de_v 2))
      (ds_cons (ds_putF 0 cf (by decide) (de_tup da_nil))
      (ds_one (ds_putF 0 cf (by decide) (de_lst da_nil))))))))
abbrev N_law_right : List Str := ["_law_pen_here", "_law_text_here", "_law_told", "_law_near_here", "_law_thing", "_law_bad", "_law_many", "_law_rules_here", "_law_due"]
theorem sc_law_right : FnScope N_law_right ["_law_pen_here"] (defScope st_law_right) := ⟨rfl, rfl, rfl, by decide +kernel, rfl, by decide +kernel, by decide +kernel⟩
theorem ok_law_right {T : List (Addr × Str)} {cc p : Addr} {f : Addr} {fd : FuncData} (F : Fun K "_law_right" "_law_right" st_law_right f fd) (ec : fd.code = .ref cc) (TB : LamX.TabB base mg cc p) (hm : (p, ((("_law_right" : Str) ++ ".<locals>.") ++ "<lambda>")) ∈ T) (only : ∀ q ∈ T, q.1 = p → q.2 = ((("_law_right" : Str) ++ ".<locals>.") ++ "<lambda>")) (bl : Bl mg) (f_law_said : SaidFn P w K mg base 2 "_law_said" sayN sayW) (f_law_case : Fn P w K mg base 4 "_law_case" S_law_case) (f_law_text : Fn P w K mg base 1 "_law_text" S_law_text) (f_law_no_rules : Fn P w K mg base 2 "_law_no_rules" S_law_no_rules) (f_law_lines : Fn P w K mg base 1 "_law_lines" S_law_lines) (f_rules_textX : FnX P w K mg base 7 "rules_text" S_rules_textX) (f_law_same : Fn P w K mg base 1 "_law_same" S_law_same) (f_law_near : Fn P w K mg base 2 "_law_near" S_law_near) (f_law_parsed : Fn P w K mg base 2 "_law_parsed" S_law_parsed) (f_read_rulesX : FnX P w K mg base 6 "read_rules" S_read_rulesX) (i_Sheet : MI P w K mg base 7 "Sheet" S_i_SheetN) : FnG P w K mg base CX0 11 f fd ["_law_pen_here"] (spOfT T K S_law_right) :=
  fnDTC (wb := wb_law_right) F sc_law_right (by decide) hS_law_right fun cdv A outer s G E ec2 g0 room => by
    have sc := sc_law_right
    exact (dsT_cons (dsT_of (ds_asg (de_callOF 0 f_law_case g0 (room.mono (by decide)) rfl da_nil) (dg_tup rfl (dgs_cons (dg_name 6 sc.nd) (dgs_cons (dg_name 7 sc.nd) dgs_nil)))))
      (dsT_cons (dsT_of (ds_set 1 sc.nd (de_callF f_law_text g0 (room.mono (by decide)) rfl (da_cons (de_v 6) (da_cons (de_callF f_law_lines g0 (room.mono (by decide)) rfl (da_cons (de_v 7) da_nil)) da_nil)))))
      (dsT_cons (dsT_setD 2 sc.nd (deT_lst (daT_cons (deT_of (de_callX0 f_rules_textX g0 (room.mono (by decide)) rfl (da_cons (de_v 6) (da_cons (de_v 7) da_nil)))) (daT_cons (deT_of (de_callX0 f_rules_textX g0 (room.mono (by decide)) rfl (da_cons (de_v 6) (da_cons (de_v 7) da_nil)))) (daT_cons (deT_said (kk := 8) f_law_said (by decide) TB (ec2.symm.trans ec) hm only g0 (room.mono (by decide)) rfl (LamX.lamS_by (sc := defScope st_law_right) (by decide +kernel)) rfl (fun _ _ _ _ _ => rfl) (fun A outer s H E f c g0 room tk => (dx_call tk f_read_rulesX g0 (room.mono (by decide)) rfl (dax_pure (da_cons (de_v 1) da_nil))))) daT_nil)))))
      (dsT_cons (dsT_of (ds_if (dt_not (dt_truth (de_callF f_law_same g0 (room.mono (by decide)) rfl (da_cons (de_v 2) (da_cons (de_lst (da_cons (de_v 1) (da_cons (de_v 1) (da_cons (de_repr g0 (hu80 room) rfl bl.repr (da_cons (de_tup (da_cons (de_v 6) (da_cons (de_v 7) da_nil))) da_nil)) da_nil)))) da_nil))))) (ds_one (ds_ret de_bl)) ds_nil))
      (dsT_cons (dsT_of (ds_setD 3 sc.nd (de_catL (de_catL (de_lst (da_cons (de_v 1) da_nil)) (de_callOF 0 f_law_near g0 (room.mono (by decide)) rfl (da_cons (de_v 1) da_nil))) (de_callOF 0 f_law_near g0 (room.mono (by decide)) rfl (da_cons (de_v 1) da_nil)))))
      (dsT_cons (dsT_of (ds_setD 3 sc.nd (de_catL (de_v 3) (de_lst (da_cons (de_catS (de_v 1) (de_mulS de_str (de_sub de_int (de_len rfl bl.len (da_cons (de_v 7) da_nil))))) (da_cons (de_catS (de_v 1) de_str) (da_cons (de_catS (de_v 1) de_str) (da_cons (de_v 7) da_nil))))))))
      (dsT_cons (dsT_for PassesOwn.never rfl (diT_of (di_seq (de_catL (de_v 3) (de_lst (da_cons (de_makeF i_Sheet g0 (room.mono (by decide)) rfl (da_cons de_int da_nil)) (da_cons (de_makeF i_Sheet g0 (room.mono (by decide)) rfl (da_cons de_int (da_cons (de_tup (da_cons (de_tup (da_cons de_int da_nil)) (da_cons de_int da_nil))) da_nil))) (da_cons (de_tup (da_cons (de_makeF i_Sheet g0 (room.mono (by decide)) rfl (da_cons de_int da_nil)) da_nil)) da_nil))))))) (dg_name 4 sc.nd) (dsT_cons (dsT_of (ds_set 8 sc.nd (de_callF f_law_parsed g0 (room.mono (by decide)) rfl (da_cons (de_v 4) da_nil))))
      (dsT_one (dsT_if (dtT_ne room.units (deT_said (kk := 8) f_law_said (by decide) TB (ec2.symm.trans ec) hm only g0 (room.mono (by decide)) rfl (LamX.lamS_by (sc := defScope st_law_right) (by decide +kernel)) rfl (fun _ _ _ _ _ => rfl) (fun A outer s H E f c g0 room tk => (dx_call tk f_read_rulesX g0 (room.mono (by decide)) rfl (dax_pure (da_cons (de_v 4) da_nil))))) (deT_of (de_if (dt_is (de_v 8) de_non) de_str (de_repr g0 (hu80 room) rfl bl.repr (da_cons (de_v 8) da_nil))))) (dsT_one (dsT_of (ds_ret de_bl))) dsT_nil))))
      (dsT_cons (dsT_for PassesOwn.never rfl (diT_of (di_seq (de_callF f_law_no_rules g0 (room.mono (by decide)) rfl (da_cons (de_v 6) da_nil)))) (dg_name 5 sc.nd) (dsT_one (dsT_if (dtT_ne room.units (deT_said (kk := 8) f_law_said (by decide) TB (ec2.symm.trans ec) hm only g0 (room.mono (by decide)) rfl (LamX.lamS_by (sc := defScope st_law_right) (by decide +kernel)) rfl (fun _ _ _ _ _ => rfl) (fun A outer s H E f c g0 room tk => (dx_call tk f_rules_textX g0 (room.mono (by decide)) rfl (dax_pure (da_cons (de_v 6) (da_cons (de_v 5) da_nil)))))) (deT_of de_str)) (dsT_one (dsT_of (ds_ret de_bl))) dsT_nil)))
      (dsT_one (dsT_of (ds_ret de_bl)))))))))))
abbrev N_law : List Str := ["_law_script", "_law_thing", "_law_k", "_law_pen_here", "_law_lap"]
theorem sc_law : FnScope N_law ["_law_script"] (defScope st_law) := ⟨rfl, rfl, rfl, by decide +kernel, rfl, by decide +kernel, by decide +kernel⟩
theorem ok_law {T : List (Addr × Str)} {cc p : Addr} {f : Addr} {fd : FuncData} (F : Fun K "law" "law" st_law f fd) (ec : fd.code = .ref cc) (TB : LamX.TabB base mg cc p) (hm : (p, ((("law" : Str) ++ ".<locals>.") ++ "<lambda>")) ∈ T) (only : ∀ q ∈ T, q.1 = p → q.2 = ((("law" : Str) ++ ".<locals>.") ++ "<lambda>")) (bl : Bl mg) (f_law_said : SaidFn P w K mg base 2 "_law_said" sayN sayW) (f_law_no_many : Fn P w K mg base 1 "_law_no_many" S_law_no_many) (f_law_pen : Fn P w K mg base 1 "_law_pen" S_law_pen) (f_law_cell_at : Fn P w K mg base 1 "_law_cell_at" S_law_cell_at) (f_law_right : FnT T P w K mg base 11 "_law_right" S_law_right) (f_rules_textX : FnX P w K mg base 7 "rules_text" S_rules_textX) : FnG P w K mg base CX0 15 f fd ["_law_script"] (spOfT T K S_law) :=
  fnDTC (wb := wb_law) F sc_law (by decide) hS_law fun cdv A outer s G E ec2 g0 room => by
    have sc := sc_law
    exact (dsT_cons (dsT_for PassesOwn.never rfl (diT_of (di_seq (de_call00 f_law_no_many g0 (room.mono (by decide)) rfl))) (dg_name 1 sc.nd) (dsT_one (dsT_if (dtT_ne room.units (deT_said (kk := 12) f_law_said (by decide) TB (ec2.symm.trans ec) hm only g0 (room.mono (by decide)) rfl (LamX.lamS_by (sc := defScope st_law) (by decide +kernel)) rfl (fun _ _ _ _ _ => rfl) (fun A outer s H E f c g0 room tk => (dx_call tk f_rules_textX g0 (room.mono (by decide)) rfl (dax_pure (da_cons (de_v 1) (da_cons de_non da_nil)))))) (deT_of de_str)) (dsT_one (dsT_of (ds_ret de_bl))) dsT_nil)))
      (dsT_cons (dsT_for PassesOwn.never rfl (diT_of (di_range1 rfl bl.range (da_cons (de_max2 rfl rfl bl.max (da_cons de_int (da_cons (de_min2 rfl rfl bl.min (da_cons (de_len rfl bl.len (da_cons (de_v 0) da_nil)) (da_cons de_int da_nil))) da_nil))) da_nil))) (dg_name 2 sc.nd) (dsT_cons (dsT_of (ds_set 3 sc.nd (de_callF f_law_pen g0 (room.mono (by decide)) rfl (da_cons (de_callF f_law_cell_at g0 (room.mono (by decide)) rfl (da_cons (de_v 0) (da_cons (de_v 2) da_nil))) da_nil))))
      (dsT_one (dsT_for PassesOwn.never rfl (diT_of (di_range1 rfl bl.range (da_cons de_int da_nil))) (dg_name 4 sc.nd) (dsT_one (dsT_if (dtT_not (dtT_truth (deT_callG f_law_right g0 (room.mono (by decide)) rfl (dagT_own 3 dagT_nil)))) (dsT_one (dsT_of (ds_ret de_bl))) dsT_nil))))))
      (dsT_one (dsT_of (ds_ret de_bl)))))
end
theorem all_mk {P : Program} {w : World} {K : PySem.W.Frag} {h : Heap} {mg : Str → Option Value} {fa : Addr} {T : List (Addr × Str)} {t_NO_NUMBER : Tok} {t_MOST_DIGITS : Tok} {t_MOST_COLUMNS : Tok} {t_MOST_RULES : Tok} {ts_DIGITS : Tok} {C_Sheet : Addr} {F_Sheet_init : Addr} {C_Conflict : Addr} {C_NoColumns : Addr} {C_NoFilling : Addr} {C_NoFull : Addr} {C_NoMany : Addr} {C_NoNumber : Addr} {C_NoParts : Addr} {C_NoRule : Addr} {C_NoRules : Addr} {C_NoTable : Addr} {C_NoText : Addr} {C_TooMany : Addr} {C_BlankError : Addr} {cc_law_right : Addr} {cc_law : Addr} {p_law_right : Addr} {p_law : Addr} (X : K.In h) (G : h.Ns mainGlobals mg) (hfa : mg "law" = some (.ref fa))
    (z_len : PySem.W.nsIn K mainGlobals "len" = some none)
    (z_range : PySem.W.nsIn K mainGlobals "range" = some none)
    (z_tuple : PySem.W.nsIn K mainGlobals "tuple" = some none)
    (z_list : PySem.W.nsIn K mainGlobals "list" = some none)
    (z_max : PySem.W.nsIn K mainGlobals "max" = some none)
    (z_min : PySem.W.nsIn K mainGlobals "min" = some none)
    (z_all : PySem.W.nsIn K mainGlobals "all" = some none)
    (z_any : PySem.W.nsIn K mainGlobals "any" = some none)
    (z_sorted : PySem.W.nsIn K mainGlobals "sorted" = some none)
    (z_repr : PySem.W.nsIn K mainGlobals "repr" = some none)
    (z_isinstance : PySem.W.nsIn K mainGlobals "isinstance" = some none)
    (z_int : PySem.W.nsIn K mainGlobals "int" = some none)
    (z_bool : PySem.W.nsIn K mainGlobals "bool" = some none)
    (z_str : PySem.W.nsIn K mainGlobals "str" = some none)
    (z_enumerate : PySem.W.nsIn K mainGlobals "enumerate" = some none)
    (z_zip : PySem.W.nsIn K mainGlobals "zip" = some none)
    (z_set : PySem.W.nsIn K mainGlobals "set" = some none)
    (z_dict : PySem.W.nsIn K mainGlobals "dict" = some none)
    (k_NO_NUMBER : PySem.W.nsIn K mainGlobals "NO_NUMBER" = some (some (.int (-1) t_NO_NUMBER)))
    (k_MOST_DIGITS : PySem.W.nsIn K mainGlobals "MOST_DIGITS" = some (some (.int 4 t_MOST_DIGITS)))
    (k_MOST_COLUMNS : PySem.W.nsIn K mainGlobals "MOST_COLUMNS" = some (some (.int 5 t_MOST_COLUMNS)))
    (k_MOST_RULES : PySem.W.nsIn K mainGlobals "MOST_RULES" = some (some (.int 8 t_MOST_RULES)))
    (ks_DIGITS : PySem.W.nsIn K mainGlobals "DIGITS" = some (some (.str "0123456789" ts_DIGITS)))
    (h_Sheet : PySem.W.nsIn K mainGlobals "Sheet" = some (some (.ref C_Sheet)))
    (pg_Sheet : PySem.W.plainGet K C_Sheet Str.empty = true)
    (hd_Sheet : PySem.W.hasDictIn K C_Sheet = true)
    (po_Sheet : PySem.W.plainOver K C_Sheet = true)
    (sa_Sheet : PySem.W.findIn K (.ref C_Sheet) "__setattr__" = some (some (.builtin "object.__setattr__")))
    (mk_Sheet : PySem.W.makesIn K C_Sheet = true)
    (kc_Sheet : PySem.W.keepIn K (.ref C_Sheet) = true)
    (na_Sheet_columns : PySem.W.findIn K (.ref C_Sheet) "columns" = some none)
    (na_Sheet_kept_rules : PySem.W.findIn K (.ref C_Sheet) "kept_rules" = some none)
    (na_Sheet_held : PySem.W.findIn K (.ref C_Sheet) "held" = some none)
    (na_Sheet_past : PySem.W.findIn K (.ref C_Sheet) "past" = some none)
    (ai_Sheet : PySem.W.findIn K (.ref C_Sheet) "__init__" = some (some (.ref F_Sheet_init)))
    (cc_Sheet : PySem.W.findIn K (.ref C_Sheet) "__class__" = some (some (.builtin "object.__class__")))
    (mo_Sheet : PySem.W.mroIn K C_Sheet (.type "object") = some true)
    (hn_ : PySem.W.specialIn K (.builtin "object.__class__") "__get__" = some (some (.builtin "getset_descriptor.__get__")))
    (ht_ : PySem.W.takesIn K (.builtin "object.__class__") = some true)
    (ck_bool : PySem.W.kitOne K (.ref C_Sheet) (.type "bool") = some false)
    (ck_int : PySem.W.kitOne K (.ref C_Sheet) (.type "int") = some false)
    (ck_str : PySem.W.kitOne K (.ref C_Sheet) (.type "str") = some false)
    (ck_tuple : PySem.W.kitOne K (.ref C_Sheet) (.type "tuple") = some false)
    (fi_Sheet_init : PySem.W.isFn K (.ref F_Sheet_init) = true)
    (fk_Sheet_init : PySem.W.keepIn K (.ref F_Sheet_init) = true)
    (d_Sheet_init : MDef K "__init__" "Sheet.__init__" st_Sheet_init F_Sheet_init)
    (h_Conflict : PySem.W.nsIn K mainGlobals "Conflict" = some (some (.ref C_Conflict)))
    (h_NoColumns : PySem.W.nsIn K mainGlobals "NoColumns" = some (some (.ref C_NoColumns)))
    (h_NoFilling : PySem.W.nsIn K mainGlobals "NoFilling" = some (some (.ref C_NoFilling)))
    (h_NoFull : PySem.W.nsIn K mainGlobals "NoFull" = some (some (.ref C_NoFull)))
    (h_NoMany : PySem.W.nsIn K mainGlobals "NoMany" = some (some (.ref C_NoMany)))
    (h_NoNumber : PySem.W.nsIn K mainGlobals "NoNumber" = some (some (.ref C_NoNumber)))
    (h_NoParts : PySem.W.nsIn K mainGlobals "NoParts" = some (some (.ref C_NoParts)))
    (h_NoRule : PySem.W.nsIn K mainGlobals "NoRule" = some (some (.ref C_NoRule)))
    (h_NoRules : PySem.W.nsIn K mainGlobals "NoRules" = some (some (.ref C_NoRules)))
    (h_NoTable : PySem.W.nsIn K mainGlobals "NoTable" = some (some (.ref C_NoTable)))
    (h_NoText : PySem.W.nsIn K mainGlobals "NoText" = some (some (.ref C_NoText)))
    (h_TooMany : PySem.W.nsIn K mainGlobals "TooMany" = some (some (.ref C_TooMany)))
    (h_BlankError : PySem.W.nsIn K mainGlobals "BlankError" = some (some (.ref C_BlankError)))
    (xq_NoMany : PySem.W.excIn K C_NoMany HandSPX.veTail "ValueError.__new__" = true)
    (xk_NoMany : PySem.W.keepIn K (.ref C_NoMany) = true)
    (xs_NoMany : PySem.W.subIn K (.ref C_NoMany) (.type "BaseException") = some true)
    (xt_NoMany : PySem.W.typeIn K (.ref C_NoMany) = some (.type "type"))
    (xq_NoRules : PySem.W.excIn K C_NoRules HandSPX.veTail "ValueError.__new__" = true)
    (xk_NoRules : PySem.W.keepIn K (.ref C_NoRules) = true)
    (xs_NoRules : PySem.W.subIn K (.ref C_NoRules) (.type "BaseException") = some true)
    (xt_NoRules : PySem.W.typeIn K (.ref C_NoRules) = some (.type "type"))
    (xq_NoText : PySem.W.excIn K C_NoText HandSPX.veTail "ValueError.__new__" = true)
    (xk_NoText : PySem.W.keepIn K (.ref C_NoText) = true)
    (xs_NoText : PySem.W.subIn K (.ref C_NoText) (.type "BaseException") = some true)
    (xt_NoText : PySem.W.typeIn K (.ref C_NoText) = some (.type "type"))
    (z_ValueError : PySem.W.nsIn K mainGlobals "ValueError" = some none)
    (ex_NoMany : PySem.W.exmOne K (.ref C_NoMany) (.ref C_BlankError) = some true)
    (kv_NoMany : PySem.W.kitOne K (.ref C_NoMany) (.type "ValueError") = some true)
    (kt_Conflict_NoMany : PySem.W.kitOne K (.ref C_NoMany) (.ref C_Conflict) = some false)
    (kt_NoColumns_NoMany : PySem.W.kitOne K (.ref C_NoMany) (.ref C_NoColumns) = some false)
    (kt_NoFilling_NoMany : PySem.W.kitOne K (.ref C_NoMany) (.ref C_NoFilling) = some false)
    (kt_NoFull_NoMany : PySem.W.kitOne K (.ref C_NoMany) (.ref C_NoFull) = some false)
    (kt_NoMany_NoMany : PySem.W.kitOne K (.ref C_NoMany) (.ref C_NoMany) = some true)
    (kt_NoNumber_NoMany : PySem.W.kitOne K (.ref C_NoMany) (.ref C_NoNumber) = some false)
    (kt_NoParts_NoMany : PySem.W.kitOne K (.ref C_NoMany) (.ref C_NoParts) = some false)
    (kt_NoRule_NoMany : PySem.W.kitOne K (.ref C_NoMany) (.ref C_NoRule) = some false)
    (kt_NoRules_NoMany : PySem.W.kitOne K (.ref C_NoMany) (.ref C_NoRules) = some false)
    (kt_NoTable_NoMany : PySem.W.kitOne K (.ref C_NoMany) (.ref C_NoTable) = some false)
    (kt_NoText_NoMany : PySem.W.kitOne K (.ref C_NoMany) (.ref C_NoText) = some false)
    (kt_TooMany_NoMany : PySem.W.kitOne K (.ref C_NoMany) (.ref C_TooMany) = some false)
    (c1_NoMany : PySem.W.findIn K (.ref C_NoMany) "__getattribute__" = some (some (.builtin "BaseException.__getattribute__")))
    (c2_NoMany : PySem.W.findIn K (.ref C_NoMany) "__getattr__" = some none)
    (c3_NoMany : PySem.W.subIn K (.ref C_NoMany) (.type "BaseException") = some true)
    (c4_NoMany : PySem.W.hasDictIn K C_NoMany = true)
    (c5_NoMany : PySem.W.findIn K (.ref C_NoMany) "__class__" = some (some (.builtin "object.__class__")))
    (c6_NoMany : PySem.W.mroIn K C_NoMany (.type "object") = some true)
    (ex_NoRules : PySem.W.exmOne K (.ref C_NoRules) (.ref C_BlankError) = some true)
    (kv_NoRules : PySem.W.kitOne K (.ref C_NoRules) (.type "ValueError") = some true)
    (kt_Conflict_NoRules : PySem.W.kitOne K (.ref C_NoRules) (.ref C_Conflict) = some false)
    (kt_NoColumns_NoRules : PySem.W.kitOne K (.ref C_NoRules) (.ref C_NoColumns) = some false)
    (kt_NoFilling_NoRules : PySem.W.kitOne K (.ref C_NoRules) (.ref C_NoFilling) = some false)
    (kt_NoFull_NoRules : PySem.W.kitOne K (.ref C_NoRules) (.ref C_NoFull) = some false)
    (kt_NoMany_NoRules : PySem.W.kitOne K (.ref C_NoRules) (.ref C_NoMany) = some false)
    (kt_NoNumber_NoRules : PySem.W.kitOne K (.ref C_NoRules) (.ref C_NoNumber) = some false)
    (kt_NoParts_NoRules : PySem.W.kitOne K (.ref C_NoRules) (.ref C_NoParts) = some false)
    (kt_NoRule_NoRules : PySem.W.kitOne K (.ref C_NoRules) (.ref C_NoRule) = some false)
    (kt_NoRules_NoRules : PySem.W.kitOne K (.ref C_NoRules) (.ref C_NoRules) = some true)
    (kt_NoTable_NoRules : PySem.W.kitOne K (.ref C_NoRules) (.ref C_NoTable) = some false)
    (kt_NoText_NoRules : PySem.W.kitOne K (.ref C_NoRules) (.ref C_NoText) = some false)
    (kt_TooMany_NoRules : PySem.W.kitOne K (.ref C_NoRules) (.ref C_TooMany) = some false)
    (c1_NoRules : PySem.W.findIn K (.ref C_NoRules) "__getattribute__" = some (some (.builtin "BaseException.__getattribute__")))
    (c2_NoRules : PySem.W.findIn K (.ref C_NoRules) "__getattr__" = some none)
    (c3_NoRules : PySem.W.subIn K (.ref C_NoRules) (.type "BaseException") = some true)
    (c4_NoRules : PySem.W.hasDictIn K C_NoRules = true)
    (c5_NoRules : PySem.W.findIn K (.ref C_NoRules) "__class__" = some (some (.builtin "object.__class__")))
    (c6_NoRules : PySem.W.mroIn K C_NoRules (.type "object") = some true)
    (ex_NoText : PySem.W.exmOne K (.ref C_NoText) (.ref C_BlankError) = some true)
    (kv_NoText : PySem.W.kitOne K (.ref C_NoText) (.type "ValueError") = some true)
    (kt_Conflict_NoText : PySem.W.kitOne K (.ref C_NoText) (.ref C_Conflict) = some false)
    (kt_NoColumns_NoText : PySem.W.kitOne K (.ref C_NoText) (.ref C_NoColumns) = some false)
    (kt_NoFilling_NoText : PySem.W.kitOne K (.ref C_NoText) (.ref C_NoFilling) = some false)
    (kt_NoFull_NoText : PySem.W.kitOne K (.ref C_NoText) (.ref C_NoFull) = some false)
    (kt_NoMany_NoText : PySem.W.kitOne K (.ref C_NoText) (.ref C_NoMany) = some false)
    (kt_NoNumber_NoText : PySem.W.kitOne K (.ref C_NoText) (.ref C_NoNumber) = some false)
    (kt_NoParts_NoText : PySem.W.kitOne K (.ref C_NoText) (.ref C_NoParts) = some false)
    (kt_NoRule_NoText : PySem.W.kitOne K (.ref C_NoText) (.ref C_NoRule) = some false)
    (kt_NoRules_NoText : PySem.W.kitOne K (.ref C_NoText) (.ref C_NoRules) = some false)
    (kt_NoTable_NoText : PySem.W.kitOne K (.ref C_NoText) (.ref C_NoTable) = some false)
    (kt_NoText_NoText : PySem.W.kitOne K (.ref C_NoText) (.ref C_NoText) = some true)
    (kt_TooMany_NoText : PySem.W.kitOne K (.ref C_NoText) (.ref C_TooMany) = some false)
    (c1_NoText : PySem.W.findIn K (.ref C_NoText) "__getattribute__" = some (some (.builtin "BaseException.__getattribute__")))
    (c2_NoText : PySem.W.findIn K (.ref C_NoText) "__getattr__" = some none)
    (c3_NoText : PySem.W.subIn K (.ref C_NoText) (.type "BaseException") = some true)
    (c4_NoText : PySem.W.hasDictIn K C_NoText = true)
    (c5_NoText : PySem.W.findIn K (.ref C_NoText) "__class__" = some (some (.builtin "object.__class__")))
    (c6_NoText : PySem.W.mroIn K C_NoText (.type "object") = some true)
    (d_is_number : DefIn K "is_number" st_is_number)
    (d_columns_line : DefIn K "columns_line" st_columns_line)
    (d_rule_line : DefIn K "rule_line" st_rule_line)
    (d_read_number : DefIn K "read_number" st_read_number)
    (d_text_linesX : DefIn K "text_lines" st_text_linesX)
    (d_law_cell_at : DefIn K "_law_cell_at" st_law_cell_at)
    (d_law_pen : DefIn K "_law_pen" st_law_pen)
    (d_law_draw : DefIn K "_law_draw" st_law_draw)
    (d_law_same : DefIn K "_law_same" st_law_same)
    (d_law_word : DefIn K "_law_word" st_law_word)
    (d_law_no_many : DefIn K "_law_no_many" st_law_no_many)
    (d_law_no_rule : DefIn K "_law_no_rule" st_law_no_rule)
    (d_law_text : DefIn K "_law_text" st_law_text)
    (d_law_number : DefIn K "_law_number" st_law_number)
    (d_law_headed : DefIn K "_law_headed" st_law_headed)
    (d_law_lines : DefIn K "_law_lines" st_law_lines)
    (d_is_number_set : DefIn K "is_number_set" st_is_number_set)
    (d_is_many : DefIn K "is_many" st_is_many)
    (d_is_column : DefIn K "is_column" st_is_column)
    (d_read_rule : DefIn K "read_rule" st_read_rule)
    (d_law_rule : DefIn K "_law_rule" st_law_rule)
    (d_law_no_rules : DefIn K "_law_no_rules" st_law_no_rules)
    (d_law_near : DefIn K "_law_near" st_law_near)
    (d_law_parsed : DefIn K "_law_parsed" st_law_parsed)
    (d_are_columns : DefIn K "are_columns" st_are_columns)
    (d_need_manyX : DefIn K "need_many" st_need_manyX)
    (d_read_manyX : DefIn K "read_many" st_read_manyX)
    (d_law_rules : DefIn K "_law_rules" st_law_rules)
    (d_is_rule : DefIn K "is_rule" st_is_rule)
    (d_law_case : DefIn K "_law_case" st_law_case)
    (d_are_rulesX : DefIn K "are_rules" st_are_rulesX)
    (d_need_rulesX : DefIn K "need_rules" st_need_rulesX)
    (d_read_rulesX : DefIn K "read_rules" st_read_rulesX)
    (d_rules_textX : DefIn K "rules_text" st_rules_textX)
    (d_law_right : DefInC K "_law_right" st_law_right cc_law_right)
    (d_law : DefInC K "law" st_law cc_law)
    (d_law_said : DefIn K "_law_said" st_law_said)
    (hm_law_right : (p_law_right, ((("_law_right" : Str) ++ ".<locals>.") ++ "<lambda>")) ∈ T)
    (on_law_right : ∀ q ∈ T, q.1 = p_law_right → q.2 = ((("_law_right" : Str) ++ ".<locals>.") ++ "<lambda>"))
    (hm_law : (p_law, ((("law" : Str) ++ ".<locals>.") ++ "<lambda>")) ∈ T)
    (on_law : ∀ q ∈ T, q.1 = p_law → q.2 = ((("law" : Str) ++ ".<locals>.") ++ "<lambda>"))
    : ∃ fd : FuncData, (∀ (s : Shared) (u : Value), BindsTo s fd ⟨[u], []⟩ [("_law_script", u)]) ∧ ∀ base : Heap, K.In base → base.Ns mainGlobals mg → LamX.TabB base mg cc_law_right p_law_right → LamX.TabB base mg cc_law p_law → FnG P w K mg base CX0 15 fa fd ["_law_script"] (spOfT T K S_law) := by
  have bl : Bl mg := ⟨PySem.W.mg_none_of X G z_len, PySem.W.mg_none_of X G z_range, PySem.W.mg_none_of X G z_tuple, PySem.W.mg_none_of X G z_list, PySem.W.mg_none_of X G z_max, PySem.W.mg_none_of X G z_min, PySem.W.mg_none_of X G z_all, PySem.W.mg_none_of X G z_any, PySem.W.mg_none_of X G z_sorted, PySem.W.mg_none_of X G z_repr, PySem.W.mg_none_of X G z_isinstance, PySem.W.mg_none_of X G z_int, PySem.W.mg_none_of X G z_bool, PySem.W.mg_none_of X G z_str, PySem.W.mg_none_of X G z_enumerate, PySem.W.mg_none_of X G z_zip, PySem.W.mg_none_of X G z_set, PySem.W.mg_none_of X G z_dict⟩
  obtain ⟨f, oc, od, kV, dc, pm, an, ct, sl, a, l, c, kp⟩ := d_law
  have e := hfa.symm.trans (PySem.W.mg_of X G a)
  cases e
  refine ⟨PySem.W.fnOf "law" "law" (defArgs st_law) (defBody st_law) (defScope st_law) .none kV dc pm an (.ref cc_law) ct, fun s v => .of_eq rfl, fun base _ _ TB_law_right TB_law => ?_⟩
  have cl_Sheet : Cls K C_Sheet := ⟨pg_Sheet, hd_Sheet, po_Sheet, sa_Sheet⟩
  have cf : ClsF K NS FL := ⟨fun n hn => by
    simp only [List.mem_cons, List.not_mem_nil, or_false] at hn
    subst hn
    exact ⟨C_Sheet, h_Sheet, cl_Sheet, fun f hf => by
        simp only [List.mem_cons, List.not_mem_nil, or_false] at hf
        rcases hf with rfl | rfl | rfl | rfl
        · exact na_Sheet_columns
        · exact na_Sheet_kept_rules
        · exact na_Sheet_held
        · exact na_Sheet_past
      ⟩
  ⟩
  have oi_bool : OdI K "bool" := ⟨fun C h => by
    have z := h.symm.trans h_Sheet
    cases z
    exact ⟨cl_Sheet, cc_Sheet, hn_, ht_, mo_Sheet, ck_bool⟩⟩
  have oi_int : OdI K "int" := ⟨fun C h => by
    have z := h.symm.trans h_Sheet
    cases z
    exact ⟨cl_Sheet, cc_Sheet, hn_, ht_, mo_Sheet, ck_int⟩⟩
  have oi_str : OdI K "str" := ⟨fun C h => by
    have z := h.symm.trans h_Sheet
    cases z
    exact ⟨cl_Sheet, cc_Sheet, hn_, ht_, mo_Sheet, ck_str⟩⟩
  have oi_tuple : OdI K "tuple" := ⟨fun C h => by
    have z := h.symm.trans h_Sheet
    cases z
    exact ⟨cl_Sheet, cc_Sheet, hn_, ht_, mo_Sheet, ck_tuple⟩⟩
  have x_NoMany : ExcAt K mg "NoMany" C_NoMany := ⟨PySem.W.mg_of X G h_NoMany, xq_NoMany, xk_NoMany, xs_NoMany, xt_NoMany⟩
  have x_NoRules : ExcAt K mg "NoRules" C_NoRules := ⟨PySem.W.mg_of X G h_NoRules, xq_NoRules, xk_NoRules, xs_NoRules, xt_NoRules⟩
  have x_NoText : ExcAt K mg "NoText" C_NoText := ⟨PySem.W.mg_of X G h_NoText, xq_NoText, xk_NoText, xs_NoText, xt_NoText⟩
  have hcE : ∀ n ∈ sayN, ∀ D, mg n = some (.ref D) → ExcC K D := (fun n hn D e => by
    have : n = "NoMany" ∨ n = "NoRules" ∨ n = "NoText" := by simpa [sayN] using hn
    rcases this with rfl | rfl | rfl
    · cases (PySem.W.mg_of X G h_NoMany).symm.trans e; exact ⟨c1_NoMany, c2_NoMany, c3_NoMany, c4_NoMany, c5_NoMany, hn_, ht_, c6_NoMany⟩
    · cases (PySem.W.mg_of X G h_NoRules).symm.trans e; exact ⟨c1_NoRules, c2_NoRules, c3_NoRules, c4_NoRules, c5_NoRules, hn_, ht_, c6_NoRules⟩
    · cases (PySem.W.mg_of X G h_NoText).symm.trans e; exact ⟨c1_NoText, c2_NoText, c3_NoText, c4_NoText, c5_NoText, hn_, ht_, c6_NoText⟩
    )
  have hex : ∀ n ∈ sayN, ∀ D, mg n = some (.ref D) → PySem.W.exmOne K (.ref D) (.ref C_BlankError) = some true := (fun n hn D e => by
    have : n = "NoMany" ∨ n = "NoRules" ∨ n = "NoText" := by simpa [sayN] using hn
    rcases this with rfl | rfl | rfl
    · cases (PySem.W.mg_of X G h_NoMany).symm.trans e; exact ex_NoMany
    · cases (PySem.W.mg_of X G h_NoRules).symm.trans e; exact ex_NoRules
    · cases (PySem.W.mg_of X G h_NoText).symm.trans e; exact ex_NoText
    )
  have hns : ∀ n ∈ sayN, ∃ D, mg n = some (.ref D) := fun n hn => by
    have : n = "NoMany" ∨ n = "NoRules" ∨ n = "NoText" := by simpa [sayN] using hn
    rcases this with rfl | rfl | rfl
    · exact ⟨_, PySem.W.mg_of X G h_NoMany⟩
    · exact ⟨_, PySem.W.mg_of X G h_NoRules⟩
    · exact ⟨_, PySem.W.mg_of X G h_NoText⟩
  have kt_ValueError : KitN K mg "ValueError" (.type "ValueError") (fun _ => true) sayN := (fun n hn D e => by
    have : n = "NoMany" ∨ n = "NoRules" ∨ n = "NoText" := by simpa [sayN] using hn
    rcases this with rfl | rfl | rfl
    · cases (PySem.W.mg_of X G h_NoMany).symm.trans e; exact kv_NoMany
    · cases (PySem.W.mg_of X G h_NoRules).symm.trans e; exact kv_NoRules
    · cases (PySem.W.mg_of X G h_NoText).symm.trans e; exact kv_NoText
    )
  have kt_Conflict : KitN K mg "Conflict" (.ref C_Conflict) (fun n => decide (n = "Conflict")) sayN := (fun n hn D e => by
    have : n = "NoMany" ∨ n = "NoRules" ∨ n = "NoText" := by simpa [sayN] using hn
    rcases this with rfl | rfl | rfl
    · cases (PySem.W.mg_of X G h_NoMany).symm.trans e; exact (kt_Conflict_NoMany.trans (by decide +kernel))
    · cases (PySem.W.mg_of X G h_NoRules).symm.trans e; exact (kt_Conflict_NoRules.trans (by decide +kernel))
    · cases (PySem.W.mg_of X G h_NoText).symm.trans e; exact (kt_Conflict_NoText.trans (by decide +kernel))
    )
  have kt_NoColumns : KitN K mg "NoColumns" (.ref C_NoColumns) (fun n => decide (n = "NoColumns")) sayN := (fun n hn D e => by
    have : n = "NoMany" ∨ n = "NoRules" ∨ n = "NoText" := by simpa [sayN] using hn
    rcases this with rfl | rfl | rfl
    · cases (PySem.W.mg_of X G h_NoMany).symm.trans e; exact (kt_NoColumns_NoMany.trans (by decide +kernel))
    · cases (PySem.W.mg_of X G h_NoRules).symm.trans e; exact (kt_NoColumns_NoRules.trans (by decide +kernel))
    · cases (PySem.W.mg_of X G h_NoText).symm.trans e; exact (kt_NoColumns_NoText.trans (by decide +kernel))
    )
  have kt_NoFilling : KitN K mg "NoFilling" (.ref C_NoFilling) (fun n => decide (n = "NoFilling")) sayN := (fun n hn D e => by
    have : n = "NoMany" ∨ n = "NoRules" ∨ n = "NoText" := by simpa [sayN] using hn
    rcases this with rfl | rfl | rfl
    · cases (PySem.W.mg_of X G h_NoMany).symm.trans e; exact (kt_NoFilling_NoMany.trans (by decide +kernel))
    · cases (PySem.W.mg_of X G h_NoRules).symm.trans e; exact (kt_NoFilling_NoRules.trans (by decide +kernel))
    · cases (PySem.W.mg_of X G h_NoText).symm.trans e; exact (kt_NoFilling_NoText.trans (by decide +kernel))
    )
  have kt_NoFull : KitN K mg "NoFull" (.ref C_NoFull) (fun n => decide (n = "NoFull")) sayN := (fun n hn D e => by
    have : n = "NoMany" ∨ n = "NoRules" ∨ n = "NoText" := by simpa [sayN] using hn
    rcases this with rfl | rfl | rfl
    · cases (PySem.W.mg_of X G h_NoMany).symm.trans e; exact (kt_NoFull_NoMany.trans (by decide +kernel))
    · cases (PySem.W.mg_of X G h_NoRules).symm.trans e; exact (kt_NoFull_NoRules.trans (by decide +kernel))
    · cases (PySem.W.mg_of X G h_NoText).symm.trans e; exact (kt_NoFull_NoText.trans (by decide +kernel))
    )
  have kt_NoMany : KitN K mg "NoMany" (.ref C_NoMany) (fun n => decide (n = "NoMany")) sayN := (fun n hn D e => by
    have : n = "NoMany" ∨ n = "NoRules" ∨ n = "NoText" := by simpa [sayN] using hn
    rcases this with rfl | rfl | rfl
    · cases (PySem.W.mg_of X G h_NoMany).symm.trans e; exact (kt_NoMany_NoMany.trans (by decide +kernel))
    · cases (PySem.W.mg_of X G h_NoRules).symm.trans e; exact (kt_NoMany_NoRules.trans (by decide +kernel))
    · cases (PySem.W.mg_of X G h_NoText).symm.trans e; exact (kt_NoMany_NoText.trans (by decide +kernel))
    )
  have kt_NoNumber : KitN K mg "NoNumber" (.ref C_NoNumber) (fun n => decide (n = "NoNumber")) sayN := (fun n hn D e => by
    have : n = "NoMany" ∨ n = "NoRules" ∨ n = "NoText" := by simpa [sayN] using hn
    rcases this with rfl | rfl | rfl
    · cases (PySem.W.mg_of X G h_NoMany).symm.trans e; exact (kt_NoNumber_NoMany.trans (by decide +kernel))
    · cases (PySem.W.mg_of X G h_NoRules).symm.trans e; exact (kt_NoNumber_NoRules.trans (by decide +kernel))
    · cases (PySem.W.mg_of X G h_NoText).symm.trans e; exact (kt_NoNumber_NoText.trans (by decide +kernel))
    )
  have kt_NoParts : KitN K mg "NoParts" (.ref C_NoParts) (fun n => decide (n = "NoParts")) sayN := (fun n hn D e => by
    have : n = "NoMany" ∨ n = "NoRules" ∨ n = "NoText" := by simpa [sayN] using hn
    rcases this with rfl | rfl | rfl
    · cases (PySem.W.mg_of X G h_NoMany).symm.trans e; exact (kt_NoParts_NoMany.trans (by decide +kernel))
    · cases (PySem.W.mg_of X G h_NoRules).symm.trans e; exact (kt_NoParts_NoRules.trans (by decide +kernel))
    · cases (PySem.W.mg_of X G h_NoText).symm.trans e; exact (kt_NoParts_NoText.trans (by decide +kernel))
    )
  have kt_NoRule : KitN K mg "NoRule" (.ref C_NoRule) (fun n => decide (n = "NoRule")) sayN := (fun n hn D e => by
    have : n = "NoMany" ∨ n = "NoRules" ∨ n = "NoText" := by simpa [sayN] using hn
    rcases this with rfl | rfl | rfl
    · cases (PySem.W.mg_of X G h_NoMany).symm.trans e; exact (kt_NoRule_NoMany.trans (by decide +kernel))
    · cases (PySem.W.mg_of X G h_NoRules).symm.trans e; exact (kt_NoRule_NoRules.trans (by decide +kernel))
    · cases (PySem.W.mg_of X G h_NoText).symm.trans e; exact (kt_NoRule_NoText.trans (by decide +kernel))
    )
  have kt_NoRules : KitN K mg "NoRules" (.ref C_NoRules) (fun n => decide (n = "NoRules")) sayN := (fun n hn D e => by
    have : n = "NoMany" ∨ n = "NoRules" ∨ n = "NoText" := by simpa [sayN] using hn
    rcases this with rfl | rfl | rfl
    · cases (PySem.W.mg_of X G h_NoMany).symm.trans e; exact (kt_NoRules_NoMany.trans (by decide +kernel))
    · cases (PySem.W.mg_of X G h_NoRules).symm.trans e; exact (kt_NoRules_NoRules.trans (by decide +kernel))
    · cases (PySem.W.mg_of X G h_NoText).symm.trans e; exact (kt_NoRules_NoText.trans (by decide +kernel))
    )
  have kt_NoTable : KitN K mg "NoTable" (.ref C_NoTable) (fun n => decide (n = "NoTable")) sayN := (fun n hn D e => by
    have : n = "NoMany" ∨ n = "NoRules" ∨ n = "NoText" := by simpa [sayN] using hn
    rcases this with rfl | rfl | rfl
    · cases (PySem.W.mg_of X G h_NoMany).symm.trans e; exact (kt_NoTable_NoMany.trans (by decide +kernel))
    · cases (PySem.W.mg_of X G h_NoRules).symm.trans e; exact (kt_NoTable_NoRules.trans (by decide +kernel))
    · cases (PySem.W.mg_of X G h_NoText).symm.trans e; exact (kt_NoTable_NoText.trans (by decide +kernel))
    )
  have kt_NoText : KitN K mg "NoText" (.ref C_NoText) (fun n => decide (n = "NoText")) sayN := (fun n hn D e => by
    have : n = "NoMany" ∨ n = "NoRules" ∨ n = "NoText" := by simpa [sayN] using hn
    rcases this with rfl | rfl | rfl
    · cases (PySem.W.mg_of X G h_NoMany).symm.trans e; exact (kt_NoText_NoMany.trans (by decide +kernel))
    · cases (PySem.W.mg_of X G h_NoRules).symm.trans e; exact (kt_NoText_NoRules.trans (by decide +kernel))
    · cases (PySem.W.mg_of X G h_NoText).symm.trans e; exact (kt_NoText_NoText.trans (by decide +kernel))
    )
  have kt_TooMany : KitN K mg "TooMany" (.ref C_TooMany) (fun n => decide (n = "TooMany")) sayN := (fun n hn D e => by
    have : n = "NoMany" ∨ n = "NoRules" ∨ n = "NoText" := by simpa [sayN] using hn
    rcases this with rfl | rfl | rfl
    · cases (PySem.W.mg_of X G h_NoMany).symm.trans e; exact (kt_TooMany_NoMany.trans (by decide +kernel))
    · cases (PySem.W.mg_of X G h_NoRules).symm.trans e; exact (kt_TooMany_NoRules.trans (by decide +kernel))
    · cases (PySem.W.mg_of X G h_NoText).symm.trans e; exact (kt_TooMany_NoText.trans (by decide +kernel))
    )
  have f_is_number : Fn P w K mg base 1 "is_number" S_is_numberA := fn_in X G d_is_number (fun _ _ _ _ _ _ us hl => match us, hl with | [_, _, _], _ => rfl) fun F => ok_is_number F bl oi_bool oi_int
  have f_columns_line : Fn P w K mg base 1 "columns_line" S_columns_line := fn_in X G d_columns_line (fun _ _ _ _ _ _ us hl => match us, hl with | [_], _ => rfl) fun F => ok_columns_line F bl
  have f_rule_line : Fn P w K mg base 1 "rule_line" S_rule_line := fn_in X G d_rule_line (fun _ _ _ _ _ _ us hl => match us, hl with | [_], _ => rfl) fun F => ok_rule_line F bl
  have f_read_number : Fn P w K mg base 1 "read_number" S_read_number := fn_in X G d_read_number (fun _ _ _ _ _ _ us hl => match us, hl with | [_], _ => rfl) fun F => ok_read_number F bl (PySem.W.mg_of X G k_NO_NUMBER) (PySem.W.mg_of X G k_MOST_DIGITS) (PySem.W.mg_of X G ks_DIGITS)
  have f_text_linesX : FnX P w K mg base 1 "text_lines" S_text_linesX := fnX_in X G d_text_linesX (fun _ _ _ _ _ _ us hl => match us, hl with | [_], _ => rfl) fun F => ok_text_linesX F bl x_NoText oi_str
  have f_law_cell_at : Fn P w K mg base 1 "_law_cell_at" S_law_cell_at := fn_in X G d_law_cell_at (fun _ _ _ _ _ _ us hl => match us, hl with | [_, _], _ => rfl) fun F => ok_law_cell_at F bl
  have f_law_pen : Fn P w K mg base 1 "_law_pen" S_law_pen := fn_in X G d_law_pen (fun _ _ _ _ _ _ us hl => match us, hl with | [_], _ => rfl) fun F => ok_law_pen F bl
  have f_law_draw : Fn P w K mg base 1 "_law_draw" S_law_draw := fn_in X G d_law_draw (fun _ _ _ _ _ _ us hl => match us, hl with | [_, _], _ => rfl) fun F => ok_law_draw F bl
  have f_law_same : Fn P w K mg base 1 "_law_same" S_law_same := fn_in X G d_law_same (fun _ _ _ _ _ _ us hl => match us, hl with | [_, _], _ => rfl) fun F => ok_law_same F bl
  have f_law_word : FnP P w K mg base 1 "_law_word" sayN sayU := fn_inP X G d_law_word (fun _ _ _ _ _ _ us hl => match us, hl with | [_], _ => rfl) fun F => ok_law_word F bl (PySem.W.mg_none_of X G z_ValueError) kt_ValueError hcE (PySem.W.mg_of X G h_Conflict) kt_Conflict (PySem.W.mg_of X G h_NoColumns) kt_NoColumns (PySem.W.mg_of X G h_NoFilling) kt_NoFilling (PySem.W.mg_of X G h_NoFull) kt_NoFull (PySem.W.mg_of X G h_NoMany) kt_NoMany (PySem.W.mg_of X G h_NoNumber) kt_NoNumber (PySem.W.mg_of X G h_NoParts) kt_NoParts (PySem.W.mg_of X G h_NoRule) kt_NoRule (PySem.W.mg_of X G h_NoRules) kt_NoRules (PySem.W.mg_of X G h_NoTable) kt_NoTable (PySem.W.mg_of X G h_NoText) kt_NoText (PySem.W.mg_of X G h_TooMany) kt_TooMany
  have f_law_no_many : Fn P w K mg base 1 "_law_no_many" S_law_no_many := fn_in X G d_law_no_many (fun _ _ _ _ _ _ us hl => match us, hl with | [], _ => rfl) fun F => ok_law_no_many F bl
  have f_law_no_rule : Fn P w K mg base 1 "_law_no_rule" S_law_no_rule := fn_in X G d_law_no_rule (fun _ _ _ _ _ _ us hl => match us, hl with | [_], _ => rfl) fun F => ok_law_no_rule F bl
  have f_law_text : Fn P w K mg base 1 "_law_text" S_law_text := fn_in X G d_law_text (fun _ _ _ _ _ _ us hl => match us, hl with | [_, _], _ => rfl) fun F => ok_law_text F bl
  have f_law_number : Fn P w K mg base 1 "_law_number" S_law_number := fn_in X G d_law_number (fun _ _ _ _ _ _ us hl => match us, hl with | [_], _ => rfl) fun F => ok_law_number F bl
  have f_law_headed : Fn P w K mg base 1 "_law_headed" S_law_headed := fn_in X G d_law_headed (fun _ _ _ _ _ _ us hl => match us, hl with | [_], _ => rfl) fun F => ok_law_headed F bl oi_str
  have f_law_lines : Fn P w K mg base 1 "_law_lines" S_law_lines := fn_in X G d_law_lines (fun _ _ _ _ _ _ us hl => match us, hl with | [_], _ => rfl) fun F => ok_law_lines F bl
  have f_is_number_set : Fn P w K mg base 2 "is_number_set" S_is_number_setA := fn_in X G d_is_number_set (fun _ _ _ _ _ _ us hl => match us, hl with | [_, _, _], _ => rfl) fun F => ok_is_number_set F bl f_is_number oi_tuple
  have f_is_many : Fn P w K mg base 2 "is_many" S_is_manyA := fn_in X G d_is_many (fun _ _ _ _ _ _ us hl => match us, hl with | [_], _ => rfl) fun F => ok_is_many F bl (PySem.W.mg_of X G k_MOST_COLUMNS) f_is_number
  have f_is_column : Fn P w K mg base 2 "is_column" S_is_columnA := fn_in X G d_is_column (fun _ _ _ _ _ _ us hl => match us, hl with | [_, _], _ => rfl) fun F => ok_is_column F bl f_is_number
  have f_read_rule : Fn P w K mg base 2 "read_rule" S_read_rule := fn_in X G d_read_rule (fun _ _ _ _ _ _ us hl => match us, hl with | [_], _ => rfl) fun F => ok_read_rule F bl f_read_number
  have f_law_rule : Fn P w K mg base 2 "_law_rule" S_law_rule := fn_in X G d_law_rule (fun _ _ _ _ _ _ us hl => match us, hl with | [_, _], _ => rfl) fun F => ok_law_rule F bl f_law_draw
  have f_law_no_rules : Fn P w K mg base 2 "_law_no_rules" S_law_no_rules := fn_in X G d_law_no_rules (fun _ _ _ _ _ _ us hl => match us, hl with | [_], _ => rfl) fun F => ok_law_no_rules F bl f_law_no_rule
  have f_law_near : Fn P w K mg base 2 "_law_near" S_law_near := fn_in X G d_law_near (fun _ _ _ _ _ _ us hl => match us, hl with | [_, _], _ => rfl) fun F => ok_law_near F bl f_law_draw
  have f_law_parsed : Fn P w K mg base 2 "_law_parsed" S_law_parsed := fn_in X G d_law_parsed (fun _ _ _ _ _ _ us hl => match us, hl with | [_], _ => rfl) fun F => ok_law_parsed F bl f_law_headed f_law_number
  have f_law_said : SaidFn P w K mg base 2 "_law_said" sayN sayW := ok_law_said X G d_law_said bl (PySem.W.mg_of X G h_BlankError) hex hns hcE f_law_word
  have f_are_columns : Fn P w K mg base 3 "are_columns" S_are_columnsA := fn_in X G d_are_columns (fun _ _ _ _ _ _ us hl => match us, hl with | [_, _], _ => rfl) fun F => ok_are_columns F bl f_is_number_set
  have f_need_manyX : FnX P w K mg base 3 "need_many" S_need_manyX := fnX_in X G d_need_manyX (fun _ _ _ _ _ _ us hl => match us, hl with | [_], _ => rfl) fun F => ok_need_manyX F bl x_NoMany f_is_many
  have f_read_manyX : FnX P w K mg base 3 "read_many" S_read_manyX := fnX_in X G d_read_manyX (fun _ _ _ _ _ _ us hl => match us, hl with | [_], _ => rfl) fun F => ok_read_manyX F bl x_NoText f_read_number f_is_many
  have f_law_rules : Fn P w K mg base 3 "_law_rules" S_law_rules := fn_in X G d_law_rules (fun _ _ _ _ _ _ us hl => match us, hl with | [_, _, _], _ => rfl) fun F => ok_law_rules F bl f_law_rule f_law_draw
  have f_is_rule : Fn P w K mg base 4 "is_rule" S_is_ruleA := fn_in X G d_is_rule (fun _ _ _ _ _ _ us hl => match us, hl with | [_, _], _ => rfl) fun F => ok_is_rule F bl f_are_columns f_is_column oi_tuple
  have f_law_case : Fn P w K mg base 4 "_law_case" S_law_case := fn_in X G d_law_case (fun _ _ _ _ _ _ us hl => match us, hl with | [_], _ => rfl) fun F => ok_law_case F bl f_law_draw f_law_rules
  have f_are_rulesX : FnX P w K mg base 5 "are_rules" S_are_rulesX := fnX_in X G d_are_rulesX (fun _ _ _ _ _ _ us hl => match us, hl with | [_, _], _ => rfl) fun F => ok_are_rulesX F bl (PySem.W.mg_of X G k_MOST_RULES) f_need_manyX f_is_rule oi_tuple
  have f_need_rulesX : FnX P w K mg base 6 "need_rules" S_need_rulesX := fnX_in X G d_need_rulesX (fun _ _ _ _ _ _ us hl => match us, hl with | [_, _], _ => rfl) fun F => ok_need_rulesX F bl x_NoRules f_are_rulesX
  have f_read_rulesX : FnX P w K mg base 6 "read_rules" S_read_rulesX := fnX_in X G d_read_rulesX (fun _ _ _ _ _ _ us hl => match us, hl with | [_], _ => rfl) fun F => ok_read_rulesX F bl x_NoText f_text_linesX f_read_manyX f_are_rulesX f_read_rule
  have f_rules_textX : FnX P w K mg base 7 "rules_text" S_rules_textX := fnX_in X G d_rules_textX (fun _ _ _ _ _ _ us hl => match us, hl with | [_, _], _ => rfl) fun F => ok_rules_textX F bl f_need_manyX f_need_rulesX f_columns_line f_rule_line
  have r_Sheet_init : FnRG P w K mg base CX0 7 F_Sheet_init (spIniA K S_Sheet_initN) := init_in (ps := ["self", "many"]) (pv := "rules") d_Sheet_init (fun _ _ _ _ _ _ us rest hl => match us, rest, hl with | [_, _], [], _ => rfl | [_, _], _ :: _, _ => rfl) fun F hb => ok_Sheet_init F hb bl f_need_manyX f_need_rulesX cf
  have i_Sheet : MI P w K mg base 7 "Sheet" S_i_SheetN := ⟨C_Sheet, F_Sheet_init, h_Sheet, PySem.W.mg_of X G h_Sheet, ⟨mk_Sheet, ai_Sheet, fi_Sheet_init, kc_Sheet⟩, (r_Sheet_init.ini (fun _ _ _ h => h.2))⟩
  have f_law_right : FnT T P w K mg base 11 "_law_right" S_law_right := fn_inTC X G d_law_right (fun _ _ _ _ _ _ us hl => match us, hl with | [_], _ => rfl) fun F ec => ok_law_right F ec TB_law_right hm_law_right on_law_right bl f_law_said f_law_case f_law_text f_law_no_rules f_law_lines f_rules_textX f_law_same f_law_near f_law_parsed f_read_rulesX i_Sheet
  exact ok_law (fun_mk (st := st_law) l c kp) rfl TB_law hm_law on_law bl f_law_said f_law_no_many f_law_pen f_law_cell_at f_law_right f_rules_textX
end B
namespace B
open PySem PySem.Spec PyProof.Rows L2 Dw
def csq (K : PySem.W.Frag) : List (Addr × Addr) := qsq.map fun z => z.1 K
def tq (K : PySem.W.Frag) : List (Addr × Str) := qsq.map fun z => ((z.1 K).2, z.2)
theorem facts_end {w : World} {K : PySem.W.Frag} {h : Heap} {mg : Str → Option Value} {fa : Addr} (c : Hq.SaysQ fq dq K) (X : K.In h) (G : h.Ns mainGlobals mg) (hfa : mg "law" = some (.ref fa)) :
    ∃ fd : FuncData, (∀ (s : Shared) (u : Value), BindsTo s fd ⟨[u], []⟩ [("_law_script", u)]) ∧ ∀ base : Heap, K.In base → base.Ns mainGlobals mg → (∀ p ∈ csq K, LamX.TabB base mg p.1 p.2) → FnG PySem.Challenge.pw_blankcells_k34_texts_of_rules w K mg base CX0 15 fa fd ["_law_script"] (spOfT (tq K) K S_law) := by
  obtain ⟨fd, hb, hF⟩ := all_mk (P := PySem.Challenge.pw_blankcells_k34_texts_of_rules) (w := w) (T := tq K) (t_NO_NUMBER := (Hq.tokO (PySem.W.nsIn K mainGlobals "NO_NUMBER"))) (t_MOST_DIGITS := (Hq.tokO (PySem.W.nsIn K mainGlobals "MOST_DIGITS"))) (t_MOST_COLUMNS := (Hq.tokO (PySem.W.nsIn K mainGlobals "MOST_COLUMNS"))) (t_MOST_RULES := (Hq.tokO (PySem.W.nsIn K mainGlobals "MOST_RULES"))) (ts_DIGITS := (Hq.tokO (PySem.W.nsIn K mainGlobals "DIGITS"))) (C_Sheet := (He.ga K "Sheet")) (F_Sheet_init := (He.ma K (He.ga K "Sheet") "__init__")) (C_Conflict := (He.ga K "Conflict")) (C_NoColumns := (He.ga K "NoColumns")) (C_NoFilling := (He.ga K "NoFilling")) (C_NoFull := (He.ga K "NoFull")) (C_NoMany := (He.ga K "NoMany")) (C_NoNumber := (He.ga K "NoNumber")) (C_NoParts := (He.ga K "NoParts")) (C_NoRule := (He.ga K "NoRule")) (C_NoRules := (He.ga K "NoRules")) (C_NoTable := (He.ga K "NoTable")) (C_NoText := (He.ga K "NoText")) (C_TooMany := (He.ga K "TooMany")) (C_BlankError := (He.ga K "BlankError")) (cc_law_right := (Hq.tbAd (fun K => He.ga K "_law_right") K).1) (cc_law := (Hq.tbAd (fun K => He.ga K "law") K).1) (p_law_right := (Hq.tbAd (fun K => He.ga K "_law_right") K).2) (p_law := (Hq.tbAd (fun K => He.ga K "law") K).2) X G hfa
    (of_decide_eq_true (c.fact 0 0))
    (of_decide_eq_true (c.fact 0 1))
    (of_decide_eq_true (c.fact 0 2))
    (of_decide_eq_true (c.fact 0 3))
    (of_decide_eq_true (c.fact 0 4))
    (of_decide_eq_true (c.fact 0 5))
    (of_decide_eq_true (c.fact 0 6))
    (of_decide_eq_true (c.fact 0 7))
    (of_decide_eq_true (c.fact 0 8))
    (of_decide_eq_true (c.fact 0 9))
    (of_decide_eq_true (c.fact 0 10))
    (of_decide_eq_true (c.fact 0 11))
    (of_decide_eq_true (c.fact 0 12))
    (of_decide_eq_true (c.fact 0 13))
    (of_decide_eq_true (c.fact 0 14))
    (of_decide_eq_true (c.fact 0 15))
    (of_decide_eq_true (c.fact 0 16))
    (of_decide_eq_true (c.fact 0 17))
    (of_decide_eq_true (c.fact 0 18))
    (of_decide_eq_true (c.fact 0 19))
    (of_decide_eq_true (c.fact 0 20))
    (of_decide_eq_true (c.fact 0 21))
    (of_decide_eq_true (c.fact 0 22))
    (of_decide_eq_true (c.fact 0 23))
    (of_decide_eq_true (c.fact 0 24))
    (of_decide_eq_true (c.fact 1 0))
    (of_decide_eq_true (c.fact 1 1))
    (of_decide_eq_true (c.fact 1 2))
    (of_decide_eq_true (c.fact 1 3))
    (of_decide_eq_true (c.fact 1 4))
    (of_decide_eq_true (c.fact 1 5))
    (of_decide_eq_true (c.fact 1 6))
    (of_decide_eq_true (c.fact 1 7))
    (of_decide_eq_true (c.fact 1 8))
    (of_decide_eq_true (c.fact 1 9))
    (of_decide_eq_true (c.fact 1 10))
    (of_decide_eq_true (c.fact 1 11))
    (of_decide_eq_true (c.fact 1 12))
    (of_decide_eq_true (c.fact 1 13))
    (of_decide_eq_true (c.fact 1 14))
    (of_decide_eq_true (c.fact 1 15))
    (of_decide_eq_true (c.fact 1 16))
    (of_decide_eq_true (c.fact 1 17))
    (of_decide_eq_true (c.fact 1 18))
    (of_decide_eq_true (c.fact 1 19))
    (Hq.mdef_ok (c.def_ 0 0) (c.fact 1 20))
    (of_decide_eq_true (c.fact 1 21))
    (of_decide_eq_true (c.fact 1 22))
    (of_decide_eq_true (c.fact 1 23))
    (of_decide_eq_true (c.fact 1 24))
    (of_decide_eq_true (c.fact 2 0))
    (of_decide_eq_true (c.fact 2 1))
    (of_decide_eq_true (c.fact 2 2))
    (of_decide_eq_true (c.fact 2 3))
    (of_decide_eq_true (c.fact 2 4))
    (of_decide_eq_true (c.fact 2 5))
    (of_decide_eq_true (c.fact 2 6))
    (of_decide_eq_true (c.fact 2 7))
    (of_decide_eq_true (c.fact 2 8))
    (of_decide_eq_true (c.fact 2 9))
    (of_decide_eq_true (c.fact 2 10))
    (of_decide_eq_true (c.fact 2 11))
    (of_decide_eq_true (c.fact 2 12))
    (of_decide_eq_true (c.fact 2 13))
    (of_decide_eq_true (c.fact 2 14))
    (of_decide_eq_true (c.fact 2 15))
    (of_decide_eq_true (c.fact 2 16))
    (of_decide_eq_true (c.fact 2 17))
    (of_decide_eq_true (c.fact 2 18))
    (of_decide_eq_true (c.fact 2 19))
    (of_decide_eq_true (c.fact 2 20))
    (of_decide_eq_true (c.fact 2 21))
    (of_decide_eq_true (c.fact 2 22))
    (of_decide_eq_true (c.fact 2 23))
    (of_decide_eq_true (c.fact 2 24))
    (of_decide_eq_true (c.fact 3 0))
    (of_decide_eq_true (c.fact 3 1))
    (of_decide_eq_true (c.fact 3 2))
    (of_decide_eq_true (c.fact 3 3))
    (of_decide_eq_true (c.fact 3 4))
    (of_decide_eq_true (c.fact 3 5))
    (of_decide_eq_true (c.fact 3 6))
    (of_decide_eq_true (c.fact 3 7))
    (of_decide_eq_true (c.fact 3 8))
    (of_decide_eq_true (c.fact 3 9))
    (of_decide_eq_true (c.fact 3 10))
    (of_decide_eq_true (c.fact 3 11))
    (of_decide_eq_true (c.fact 3 12))
    (of_decide_eq_true (c.fact 3 13))
    (of_decide_eq_true (c.fact 3 14))
    (of_decide_eq_true (c.fact 3 15))
    (of_decide_eq_true (c.fact 3 16))
    (of_decide_eq_true (c.fact 3 17))
    (of_decide_eq_true (c.fact 3 18))
    (of_decide_eq_true (c.fact 3 19))
    (of_decide_eq_true (c.fact 3 20))
    (of_decide_eq_true (c.fact 3 21))
    (of_decide_eq_true (c.fact 3 22))
    (of_decide_eq_true (c.fact 3 23))
    (of_decide_eq_true (c.fact 3 24))
    (of_decide_eq_true (c.fact 4 0))
    (of_decide_eq_true (c.fact 4 1))
    (of_decide_eq_true (c.fact 4 2))
    (of_decide_eq_true (c.fact 4 3))
    (of_decide_eq_true (c.fact 4 4))
    (of_decide_eq_true (c.fact 4 5))
    (of_decide_eq_true (c.fact 4 6))
    (of_decide_eq_true (c.fact 4 7))
    (of_decide_eq_true (c.fact 4 8))
    (of_decide_eq_true (c.fact 4 9))
    (of_decide_eq_true (c.fact 4 10))
    (of_decide_eq_true (c.fact 4 11))
    (of_decide_eq_true (c.fact 4 12))
    (of_decide_eq_true (c.fact 4 13))
    (of_decide_eq_true (c.fact 4 14))
    (of_decide_eq_true (c.fact 4 15))
    (of_decide_eq_true (c.fact 4 16))
    (of_decide_eq_true (c.fact 4 17))
    (of_decide_eq_true (c.fact 4 18))
    (of_decide_eq_true (c.fact 4 19))
    (of_decide_eq_true (c.fact 4 20))
    (of_decide_eq_true (c.fact 4 21))
    (of_decide_eq_true (c.fact 4 22))
    (of_decide_eq_true (c.fact 4 23))
    (of_decide_eq_true (c.fact 4 24))
    (of_decide_eq_true (c.fact 5 0))
    (of_decide_eq_true (c.fact 5 1))
    (of_decide_eq_true (c.fact 5 2))
    (of_decide_eq_true (c.fact 5 3))
    (of_decide_eq_true (c.fact 5 4))
    (of_decide_eq_true (c.fact 5 5))
    (of_decide_eq_true (c.fact 5 6))
    (Hq.defin_ok (of_decide_eq_true (c.fact 5 7)) (c.def_ 0 1) (c.fact 5 8))
    (Hq.defin_ok (of_decide_eq_true (c.fact 5 9)) (c.def_ 0 2) (c.fact 5 10))
    (Hq.defin_ok (of_decide_eq_true (c.fact 5 11)) (c.def_ 0 3) (c.fact 5 12))
    (Hq.defin_ok (of_decide_eq_true (c.fact 5 13)) (c.def_ 0 4) (c.fact 5 14))
    (Hq.defin_ok (of_decide_eq_true (c.fact 5 15)) (c.def_ 0 5) (c.fact 5 16))
    (Hq.defin_ok (of_decide_eq_true (c.fact 5 17)) (c.def_ 0 6) (c.fact 5 18))
    (Hq.defin_ok (of_decide_eq_true (c.fact 5 19)) (c.def_ 0 7) (c.fact 5 20))
    (Hq.defin_ok (of_decide_eq_true (c.fact 5 21)) (c.def_ 0 8) (c.fact 5 22))
    (Hq.defin_ok (of_decide_eq_true (c.fact 5 23)) (c.def_ 0 9) (c.fact 5 24))
    (Hq.defin_ok (of_decide_eq_true (c.fact 6 0)) (c.def_ 0 10) (c.fact 6 1))
    (Hq.defin_ok (of_decide_eq_true (c.fact 6 2)) (c.def_ 0 11) (c.fact 6 3))
    (Hq.defin_ok (of_decide_eq_true (c.fact 6 4)) (c.def_ 0 12) (c.fact 6 5))
    (Hq.defin_ok (of_decide_eq_true (c.fact 6 6)) (c.def_ 0 13) (c.fact 6 7))
    (Hq.defin_ok (of_decide_eq_true (c.fact 6 8)) (c.def_ 0 14) (c.fact 6 9))
    (Hq.defin_ok (of_decide_eq_true (c.fact 6 10)) (c.def_ 0 15) (c.fact 6 11))
    (Hq.defin_ok (of_decide_eq_true (c.fact 6 12)) (c.def_ 0 16) (c.fact 6 13))
    (Hq.defin_ok (of_decide_eq_true (c.fact 6 14)) (c.def_ 0 17) (c.fact 6 15))
    (Hq.defin_ok (of_decide_eq_true (c.fact 6 16)) (c.def_ 0 18) (c.fact 6 17))
    (Hq.defin_ok (of_decide_eq_true (c.fact 6 18)) (c.def_ 0 19) (c.fact 6 19))
    (Hq.defin_ok (of_decide_eq_true (c.fact 6 20)) (c.def_ 0 20) (c.fact 6 21))
    (Hq.defin_ok (of_decide_eq_true (c.fact 6 22)) (c.def_ 0 21) (c.fact 6 23))
    (Hq.defin_ok (of_decide_eq_true (c.fact 6 24)) (c.def_ 0 22) (c.fact 7 0))
    (Hq.defin_ok (of_decide_eq_true (c.fact 7 1)) (c.def_ 0 23) (c.fact 7 2))
    (Hq.defin_ok (of_decide_eq_true (c.fact 7 3)) (c.def_ 0 24) (c.fact 7 4))
    (Hq.defin_ok (of_decide_eq_true (c.fact 7 5)) (c.def_ 1 0) (c.fact 7 6))
    (Hq.defin_ok (of_decide_eq_true (c.fact 7 7)) (c.def_ 1 1) (c.fact 7 8))
    (Hq.defin_ok (of_decide_eq_true (c.fact 7 9)) (c.def_ 1 2) (c.fact 7 10))
    (Hq.defin_ok (of_decide_eq_true (c.fact 7 11)) (c.def_ 1 3) (c.fact 7 12))
    (Hq.defin_ok (of_decide_eq_true (c.fact 7 13)) (c.def_ 1 4) (c.fact 7 14))
    (Hq.defin_ok (of_decide_eq_true (c.fact 7 15)) (c.def_ 1 5) (c.fact 7 16))
    (Hq.defin_ok (of_decide_eq_true (c.fact 7 17)) (c.def_ 1 6) (c.fact 7 18))
    (Hq.defin_ok (of_decide_eq_true (c.fact 7 19)) (c.def_ 1 7) (c.fact 7 20))
    (Hq.defin_ok (of_decide_eq_true (c.fact 7 21)) (c.def_ 1 8) (c.fact 7 22))
    (Hq.defin_ok (of_decide_eq_true (c.fact 7 23)) (c.def_ 1 9) (c.fact 7 24))
    (Hq.defC_ok (of_decide_eq_true (c.fact 8 0)) (c.def_ 1 10) (c.fact 8 1))
    (Hq.defC_ok (of_decide_eq_true (c.fact 8 2)) (c.def_ 1 11) (c.fact 8 3))
    (Hq.defin_ok (of_decide_eq_true (c.fact 8 4)) (c.def_ 1 12) (c.fact 8 5))
    (by simp [tq, qsq])
    (fun q hq e => by
      simp only [tq, qsq, List.map_cons, List.map_nil, List.mem_cons, List.not_mem_nil, or_false] at hq
      rcases hq with rfl | rfl
      · rfl
      · exact absurd e (of_decide_eq_true (c.fact 8 6))
      )
    (by simp [tq, qsq])
    (fun q hq e => by
      simp only [tq, qsq, List.map_cons, List.map_nil, List.mem_cons, List.not_mem_nil, or_false] at hq
      rcases hq with rfl | rfl
      · exact absurd e (of_decide_eq_true (c.fact 8 7))
      · rfl
      )
  exact ⟨fd, hb, fun base k1 k2 tb => hF base k1 k2 (tb _ (by simp [csq, qsq])) (tb _ (by simp [csq, qsq]))⟩
end B
set_option maxHeartbeats 0
namespace B
open PySem PySem.Spec PyProof.Rows L2
end B
open PySem PySem.W PySem.Calls PyProof.Rows
theorem PySem.Challenge.cw_blankcells_k34_texts_of_rules_holds : PySem.Challenge.rw_blankcells_k34_texts_of_rules.Holds := by
  w_on; o_law
  refine HandSHeadRun.head_any (r := (PySem.W.OpenLaw.row PySem.Challenge.rw_blankcells_k34_texts_of_rules)) (q := PySem.W.view (PySem.W.OpenLaw.row PySem.Challenge.rw_blankcells_k34_texts_of_rules).prog [91]) (H := B.hkq) (ob := B.obq) (M := 6542) (loose := B.lq) (d := HandSHeadRun.topDef (PySem.W.OpenLaw.row PySem.Challenge.rw_blankcells_k34_texts_of_rules).prog 91) (kwd := []) B.obq_eq
    (by kernel_rfl) (fun s => by kernel_rfl) B.runq (by kernel_rfl) (by kernel_rfl) (by kernel_rfl) (by rfl) (by first | assumption | decide +kernel) (by decide +kernel) ⟨rfl, rfl, rfl, rfl, rfl, by decide +kernel⟩ ?hw ?hc
  case hw => w_witness2
  case hc =>
    refine Hq.walkGTE (l := PySem.Challenge.rw_blankcells_k34_texts_of_rules) (n := 63) (k := 15) (x := "_law_script") (sp := fun cs K => Dw.spOfT (B.tq K) K B.S_law) rfl (by decide) (by kernel_rfl) ⟨rfl, by decide, by decide⟩ ?F
    intro w mg fa h Y G hmg0
    obtain ⟨K, KX, c⟩ := Y
    have hmg : mg ("law" : PySem.Str) = some (.ref fa) := by
      have e : (HandSHeadRun.topDef (PySem.W.OpenLaw.row PySem.Challenge.rw_blankcells_k34_texts_of_rules).prog 91).name = ("law" : PySem.Str) := by kernel_rfl
      rw [← e]
      exact hmg0
    obtain ⟨fd, hb, hF⟩ := B.facts_end (w := w) c.q KX G hmg
    have ct : ∀ p ∈ B.csq K, ∃ t ∈ B.tsq, t K = p := fun p hp => by
      obtain ⟨z, hz, e⟩ := List.mem_map.mp hp
      exact ⟨z.1, List.mem_map.mpr ⟨z, hz, rfl⟩, e⟩
    refine ⟨K, B.csq K, KX, fun p hp => ?_, fun p hp => ?_, fun p hp => ?_, fd, hb, hF, fun G a ns hl hO hA hS => Dw.law_startTs ⟨ns, rfl, hl, rfl⟩ (fun y hy => ?_) (fun y hy => ?_) hS⟩
    · obtain ⟨t, ht, e⟩ := ct p hp
      rw [← e]; exact (c.t t ht).2.2
    · obtain ⟨t, ht, e⟩ := ct p hp
      rw [← e]; exact (c.t t ht).2.1
    · obtain ⟨t, ht, e⟩ := ct p hp
      rw [← e]; exact (c.t t ht).1
    · obtain ⟨z, hz, e⟩ := List.mem_map.mp hy
      rw [← e]; exact hO _ (List.mem_map.mpr ⟨z, hz, rfl⟩)
    · obtain ⟨z, hz, e⟩ := List.mem_map.mp hy
      rw [← e]; exact hA _ (List.mem_map.mpr ⟨z, hz, rfl⟩)
