import PyProof.Rows.All
import Wide.All
import OpenK.AllK
import Wide.FinOn
import KE.KStateDown
import HandS.Head0
import HandS.Head1
import HandS.Head2
import PySem.Challenge.RW_treequill_k81_transforms_refused
import HandS.ForMost
import HandS.Wide
import HandS.Codes
import HandS.OwnEq
import HandS.IsInst
import KE.KEqSeq
import HandS.ForExc
import HandS.Star
import HandS.Zip
import HandS.TupAny
import HandS.MakeKwOnly
import HandS.Walk
import HandS.TryMany
import HandS.RaiseMore
import HandS.Flow
import HandS.Style
import PyProof.DictUpdate
import HandS.Text
import HandS.StrMore
import HandS.Lambda
import HandS.Nested
import HandS.Exc
import HandS.ExcInit
import HandS.ExcField
import HandS.ExcIs
import HandS.ExcOwn
import KE.KExcIs
import HandS.Base
import HandS.Call
import HandS.Comp
import HandS.ListEq
import PyProof.NeKinds
import HandS.ForSpec
import HandS.HeadEnd
import HandS.HeadHook1
import HandS.HeadHook2
import HandS.HeadHook3
import HandS.EndTab
import HandS.HeadHook4
import HandS.HeadWalk
set_option Elab.async false
set_option linter.all false
set_option maxRecDepth 100000
set_option maxHeartbeats 0
set_option pp.maxSteps 40
/-! The top: its first two statements by a run of their own, the state behind them written out. -/
noncomputable section
namespace HDR
open PySem PySem.W PySem.Calls PyProof.Rows
abbrev R : OpenRow := OpenLaw.row PySem.Challenge.rw_treequill_k81_transforms_refused
abbrev PG : Program := R.prog
def lifeF : Life := Life.mk [] [] [] 0 [] [] Bool.false (List.toArray []) [] 0 Bool.false Bool.false Bool.false 0 [2000, 10, 10] Bool.false 0 Bool.true [] [] 0 Bool.false
def o_43 : Params → Obj := (fun P => (Obj.mk (Value.type "tuple") (Option.none) (Data.seq (List.toArray []) 0) (List.toArray [])))
def o_44 : Params → Obj := (fun P => (Obj.mk Value.none (Option.none) (Data.fields (List.toArray [])) (List.toArray [])))
def o_45 : Params → Obj := (fun P => (Obj.mk (Value.type "code") (Option.none) (Data.fields (List.toArray [(Value.str (Str.ofString "<module>") 182), (Value.str (Str.ofString "<module>") 183), (Value.str (Str.ofString "/claim/cut.py") 184), (Value.int 1 0), (Value.int 0 0), (Value.int 0 0), (Value.int 0 0), (Value.int 0 0), (Value.ref 11), (Value.bool Bool.false), (Value.int 181 0), (Value.ref 12), Value.none, Value.none, Value.none, Value.none, (Value.int 185 0), (Value.int 1 0), (Value.str (Str.ofString "/claim/cut.py") 186)])) (List.toArray [])))
def o_46 : Params → Obj := (fun P => (Obj.mk (Value.type "frame") (Option.none) Data.plain (List.toArray [(Option.some (Value.ref 13)), (Option.some (Value.ref 3)), (Option.some (Value.ref 3)), (Option.none), (Option.some (Value.str (Str.ofString "__main__") 164)), (Option.none), (Option.some (Value.ref 0))])))
def o_50 : Params → Obj := (fun P => (Obj.mk (Value.type "tuple") (Option.none) (Data.seq (List.toArray [(Value.str (Str.ofString "*") 187), (Value.str (Str.ofString "+") 188), (Value.str (Str.ofString "?*") 189)]) 0) (List.toArray [])))
def o_51 : Params → Obj := (fun P => (Obj.mk (Value.type "dict") (Option.none) (Data.dict (List.toArray [(DictEntry.mk (PyData.keyHash P (Str.ofString "__name__")) (Value.str (Str.ofString "__name__") 165) (Value.str (Str.ofString "__main__") 164)), (DictEntry.mk (PyData.keyHash P (Str.ofString "__doc__")) (Value.str (Str.ofString "__doc__") 166) Value.none), (DictEntry.mk (PyData.keyHash P (Str.ofString "__package__")) (Value.str (Str.ofString "__package__") 167) Value.none), (DictEntry.mk (PyData.keyHash P (Str.ofString "__loader__")) (Value.str (Str.ofString "__loader__") 168) (Value.builtin "__main__.__loader__#opaque")), (DictEntry.mk (PyData.keyHash P (Str.ofString "__spec__")) (Value.str (Str.ofString "__spec__") 169) Value.none), (DictEntry.mk (PyData.keyHash P (Str.ofString "__annotations__")) (Value.str (Str.ofString "__annotations__") 170) (Value.ref 6)), (DictEntry.mk (PyData.keyHash P (Str.ofString "__builtins__")) (Value.str (Str.ofString "__builtins__") 171) (Value.ref 4)), (DictEntry.mk (PyData.keyHash P (Str.ofString "__file__")) (Value.str (Str.ofString "__file__") 173) (Value.str (Str.ofString "/claim/cut.py") 172)), (DictEntry.mk (PyData.keyHash P (Str.ofString "__cached__")) (Value.str (Str.ofString "__cached__") 174) Value.none), (DictEntry.mk (PyData.keyHash P (Str.ofString "LIST_MARKS")) (Value.str (Str.ofString "LIST_MARKS") 190) (Value.ref 15)), (DictEntry.mk (PyData.keyHash P (Str.ofString "FIELDS")) (Value.str (Str.ofString "FIELDS") 872) (Value.ref 16))]) 11) (List.toArray [])))
def o_52 : Params → Obj := (fun P => (Obj.mk (Value.type "dict") (Option.none) (Data.dict (List.toArray [(DictEntry.mk (PyData.keyHash P (Str.ofString "Module")) (Value.str (Str.ofString "Module") 191) (Value.ref 18)), (DictEntry.mk (PyData.keyHash P (Str.ofString "Expression")) (Value.str (Str.ofString "Expression") 196) (Value.ref 20)), (DictEntry.mk (PyData.keyHash P (Str.ofString "FunctionDef")) (Value.str (Str.ofString "FunctionDef") 201) (Value.ref 26)), (DictEntry.mk (PyData.keyHash P (Str.ofString "AsyncFunctionDef")) (Value.str (Str.ofString "AsyncFunctionDef") 218) (Value.ref 32)), (DictEntry.mk (PyData.keyHash P (Str.ofString "ClassDef")) (Value.str (Str.ofString "ClassDef") 235) (Value.ref 38)), (DictEntry.mk (PyData.keyHash P (Str.ofString "Return")) (Value.str (Str.ofString "Return") 252) (Value.ref 40)), (DictEntry.mk (PyData.keyHash P (Str.ofString "Delete")) (Value.str (Str.ofString "Delete") 257) (Value.ref 42)), (DictEntry.mk (PyData.keyHash P (Str.ofString "Assign")) (Value.str (Str.ofString "Assign") 262) (Value.ref 45)), (DictEntry.mk (PyData.keyHash P (Str.ofString "AugAssign")) (Value.str (Str.ofString "AugAssign") 270) (Value.ref 49)), (DictEntry.mk (PyData.keyHash P (Str.ofString "AnnAssign")) (Value.str (Str.ofString "AnnAssign") 281) (Value.ref 54)), (DictEntry.mk (PyData.keyHash P (Str.ofString "For")) (Value.str (Str.ofString "For") 295) (Value.ref 59)), (DictEntry.mk (PyData.keyHash P (Str.ofString "AsyncFor")) (Value.str (Str.ofString "AsyncFor") 309) (Value.ref 64)), (DictEntry.mk (PyData.keyHash P (Str.ofString "While")) (Value.str (Str.ofString "While") 323) (Value.ref 68)), (DictEntry.mk (PyData.keyHash P (Str.ofString "If")) (Value.str (Str.ofString "If") 334) (Value.ref 72)), (DictEntry.mk (PyData.keyHash P (Str.ofString "With")) (Value.str (Str.ofString "With") 345) (Value.ref 75)), (DictEntry.mk (PyData.keyHash P (Str.ofString "AsyncWith")) (Value.str (Str.ofString "AsyncWith") 353) (Value.ref 78)), (DictEntry.mk (PyData.keyHash P (Str.ofString "Match")) (Value.str (Str.ofString "Match") 361) (Value.ref 81)), (DictEntry.mk (PyData.keyHash P (Str.ofString "Raise")) (Value.str (Str.ofString "Raise") 369) (Value.ref 85)), (DictEntry.mk (PyData.keyHash P (Str.ofString "Assert")) (Value.str (Str.ofString "Assert") 377) (Value.ref 88)), (DictEntry.mk (PyData.keyHash P (Str.ofString "Try")) (Value.str (Str.ofString "Try") 385) (Value.ref 93)), (DictEntry.mk (PyData.keyHash P (Str.ofString "Import")) (Value.str (Str.ofString "Import") 399) (Value.ref 95)), (DictEntry.mk (PyData.keyHash P (Str.ofString "ImportFrom")) (Value.str (Str.ofString "ImportFrom") 404) (Value.ref 99)), (DictEntry.mk (PyData.keyHash P (Str.ofString "Global")) (Value.str (Str.ofString "Global") 415) (Value.ref 101)), (DictEntry.mk (PyData.keyHash P (Str.ofString "Nonlocal")) (Value.str (Str.ofString "Nonlocal") 420) (Value.ref 103)), (DictEntry.mk (PyData.keyHash P (Str.ofString "Expr")) (Value.str (Str.ofString "Expr") 425) (Value.ref 105)), (DictEntry.mk (PyData.keyHash P (Str.ofString "Pass")) (Value.str (Str.ofString "Pass") 430) (Value.ref 106)), (DictEntry.mk (PyData.keyHash P (Str.ofString "Break")) (Value.str (Str.ofString "Break") 432) (Value.ref 107)), (DictEntry.mk (PyData.keyHash P (Str.ofString "Continue")) (Value.str (Str.ofString "Continue") 434) (Value.ref 108)), (DictEntry.mk (PyData.keyHash P (Str.ofString "BoolOp")) (Value.str (Str.ofString "BoolOp") 436) (Value.ref 111)), (DictEntry.mk (PyData.keyHash P (Str.ofString "NamedExpr")) (Value.str (Str.ofString "NamedExpr") 444) (Value.ref 114)), (DictEntry.mk (PyData.keyHash P (Str.ofString "BinOp")) (Value.str (Str.ofString "BinOp") 452) (Value.ref 118)), (DictEntry.mk (PyData.keyHash P (Str.ofString "UnaryOp")) (Value.str (Str.ofString "UnaryOp") 463) (Value.ref 121)), (DictEntry.mk (PyData.keyHash P (Str.ofString "Lambda")) (Value.str (Str.ofString "Lambda") 471) (Value.ref 124)), (DictEntry.mk (PyData.keyHash P (Str.ofString "IfExp")) (Value.str (Str.ofString "IfExp") 479) (Value.ref 128)), (DictEntry.mk (PyData.keyHash P (Str.ofString "Dict")) (Value.str (Str.ofString "Dict") 490) (Value.ref 132)), (DictEntry.mk (PyData.keyHash P (Str.ofString "Set")) (Value.str (Str.ofString "Set") 498) (Value.ref 134)), (DictEntry.mk (PyData.keyHash P (Str.ofString "ListComp")) (Value.str (Str.ofString "ListComp") 503) (Value.ref 137)), (DictEntry.mk (PyData.keyHash P (Str.ofString "SetComp")) (Value.str (Str.ofString "SetComp") 511) (Value.ref 140)), (DictEntry.mk (PyData.keyHash P (Str.ofString "GeneratorExp")) (Value.str (Str.ofString "GeneratorExp") 519) (Value.ref 143)), (DictEntry.mk (PyData.keyHash P (Str.ofString "DictComp")) (Value.str (Str.ofString "DictComp") 527) (Value.ref 147)), (DictEntry.mk (PyData.keyHash P (Str.ofString "Await")) (Value.str (Str.ofString "Await") 538) (Value.ref 149)), (DictEntry.mk (PyData.keyHash P (Str.ofString "Yield")) (Value.str (Str.ofString "Yield") 543) (Value.ref 151)), (DictEntry.mk (PyData.keyHash P (Str.ofString "YieldFrom")) (Value.str (Str.ofString "YieldFrom") 548) (Value.ref 153)), (DictEntry.mk (PyData.keyHash P (Str.ofString "Compare")) (Value.str (Str.ofString "Compare") 553) (Value.ref 157)), (DictEntry.mk (PyData.keyHash P (Str.ofString "Call")) (Value.str (Str.ofString "Call") 564) (Value.ref 161)), (DictEntry.mk (PyData.keyHash P (Str.ofString "FormattedValue")) (Value.str (Str.ofString "FormattedValue") 575) (Value.ref 165)), (DictEntry.mk (PyData.keyHash P (Str.ofString "JoinedStr")) (Value.str (Str.ofString "JoinedStr") 586) (Value.ref 167)), (DictEntry.mk (PyData.keyHash P (Str.ofString "Constant")) (Value.str (Str.ofString "Constant") 591) (Value.ref 169)), (DictEntry.mk (PyData.keyHash P (Str.ofString "Attribute")) (Value.str (Str.ofString "Attribute") 596) (Value.ref 173)), (DictEntry.mk (PyData.keyHash P (Str.ofString "Subscript")) (Value.str (Str.ofString "Subscript") 607) (Value.ref 177)), (DictEntry.mk (PyData.keyHash P (Str.ofString "Starred")) (Value.str (Str.ofString "Starred") 618) (Value.ref 180)), (DictEntry.mk (PyData.keyHash P (Str.ofString "Name")) (Value.str (Str.ofString "Name") 626) (Value.ref 184)), (DictEntry.mk (PyData.keyHash P (Str.ofString "List")) (Value.str (Str.ofString "List") 634) (Value.ref 187)), (DictEntry.mk (PyData.keyHash P (Str.ofString "Tuple")) (Value.str (Str.ofString "Tuple") 642) (Value.ref 190)), (DictEntry.mk (PyData.keyHash P (Str.ofString "Slice")) (Value.str (Str.ofString "Slice") 650) (Value.ref 194)), (DictEntry.mk (PyData.keyHash P (Str.ofString "comprehension")) (Value.str (Str.ofString "comprehension") 661) (Value.ref 199)), (DictEntry.mk (PyData.keyHash P (Str.ofString "ExceptHandler")) (Value.str (Str.ofString "ExceptHandler") 675) (Value.ref 203)), (DictEntry.mk (PyData.keyHash P (Str.ofString "arguments")) (Value.str (Str.ofString "arguments") 686) (Value.ref 211)), (DictEntry.mk (PyData.keyHash P (Str.ofString "arg")) (Value.str (Str.ofString "arg") 709) (Value.ref 214)), (DictEntry.mk (PyData.keyHash P (Str.ofString "keyword")) (Value.str (Str.ofString "keyword") 717) (Value.ref 217)), (DictEntry.mk (PyData.keyHash P (Str.ofString "alias")) (Value.str (Str.ofString "alias") 725) (Value.ref 220)), (DictEntry.mk (PyData.keyHash P (Str.ofString "withitem")) (Value.str (Str.ofString "withitem") 733) (Value.ref 223)), (DictEntry.mk (PyData.keyHash P (Str.ofString "match_case")) (Value.str (Str.ofString "match_case") 741) (Value.ref 227)), (DictEntry.mk (PyData.keyHash P (Str.ofString "MatchValue")) (Value.str (Str.ofString "MatchValue") 752) (Value.ref 229)), (DictEntry.mk (PyData.keyHash P (Str.ofString "MatchSingleton")) (Value.str (Str.ofString "MatchSingleton") 757) (Value.ref 231)), (DictEntry.mk (PyData.keyHash P (Str.ofString "MatchSequence")) (Value.str (Str.ofString "MatchSequence") 762) (Value.ref 233)), (DictEntry.mk (PyData.keyHash P (Str.ofString "MatchOr")) (Value.str (Str.ofString "MatchOr") 767) (Value.ref 235)), (DictEntry.mk (PyData.keyHash P (Str.ofString "MatchMapping")) (Value.str (Str.ofString "MatchMapping") 772) (Value.ref 239)), (DictEntry.mk (PyData.keyHash P (Str.ofString "MatchClass")) (Value.str (Str.ofString "MatchClass") 783) (Value.ref 245)), (DictEntry.mk (PyData.keyHash P (Str.ofString "MatchStar")) (Value.str (Str.ofString "MatchStar") 797) (Value.ref 247)), (DictEntry.mk (PyData.keyHash P (Str.ofString "MatchAs")) (Value.str (Str.ofString "MatchAs") 802) (Value.ref 250)), (DictEntry.mk (PyData.keyHash P (Str.ofString "And")) (Value.str (Str.ofString "And") 810) (Value.ref 251)), (DictEntry.mk (PyData.keyHash P (Str.ofString "Or")) (Value.str (Str.ofString "Or") 812) (Value.ref 252)), (DictEntry.mk (PyData.keyHash P (Str.ofString "Invert")) (Value.str (Str.ofString "Invert") 814) (Value.ref 253)), (DictEntry.mk (PyData.keyHash P (Str.ofString "Not")) (Value.str (Str.ofString "Not") 816) (Value.ref 254)), (DictEntry.mk (PyData.keyHash P (Str.ofString "UAdd")) (Value.str (Str.ofString "UAdd") 818) (Value.ref 255)), (DictEntry.mk (PyData.keyHash P (Str.ofString "USub")) (Value.str (Str.ofString "USub") 820) (Value.ref 256)), (DictEntry.mk (PyData.keyHash P (Str.ofString "Load")) (Value.str (Str.ofString "Load") 822) (Value.ref 257)), (DictEntry.mk (PyData.keyHash P (Str.ofString "Store")) (Value.str (Str.ofString "Store") 824) (Value.ref 258)), (DictEntry.mk (PyData.keyHash P (Str.ofString "Del")) (Value.str (Str.ofString "Del") 826) (Value.ref 259)), (DictEntry.mk (PyData.keyHash P (Str.ofString "Add")) (Value.str (Str.ofString "Add") 828) (Value.ref 260)), (DictEntry.mk (PyData.keyHash P (Str.ofString "Sub")) (Value.str (Str.ofString "Sub") 830) (Value.ref 261)), (DictEntry.mk (PyData.keyHash P (Str.ofString "Mult")) (Value.str (Str.ofString "Mult") 832) (Value.ref 262)), (DictEntry.mk (PyData.keyHash P (Str.ofString "MatMult")) (Value.str (Str.ofString "MatMult") 834) (Value.ref 263)), (DictEntry.mk (PyData.keyHash P (Str.ofString "Div")) (Value.str (Str.ofString "Div") 836) (Value.ref 264)), (DictEntry.mk (PyData.keyHash P (Str.ofString "FloorDiv")) (Value.str (Str.ofString "FloorDiv") 838) (Value.ref 266)), (DictEntry.mk (PyData.keyHash P (Str.ofString "Pow")) (Value.str (Str.ofString "Pow") 840) (Value.ref 267)), (DictEntry.mk (PyData.keyHash P (Str.ofString "LShift")) (Value.str (Str.ofString "LShift") 842) (Value.ref 268)), (DictEntry.mk (PyData.keyHash P (Str.ofString "RShift")) (Value.str (Str.ofString "RShift") 844) (Value.ref 269)), (DictEntry.mk (PyData.keyHash P (Str.ofString "BitOr")) (Value.str (Str.ofString "BitOr") 846) (Value.ref 270)), (DictEntry.mk (PyData.keyHash P (Str.ofString "BitXor")) (Value.str (Str.ofString "BitXor") 848) (Value.ref 271)), (DictEntry.mk (PyData.keyHash P (Str.ofString "BitAnd")) (Value.str (Str.ofString "BitAnd") 850) (Value.ref 272)), (DictEntry.mk (PyData.keyHash P (Str.ofString "Eq")) (Value.str (Str.ofString "Eq") 852) (Value.ref 273)), (DictEntry.mk (PyData.keyHash P (Str.ofString "NotEq")) (Value.str (Str.ofString "NotEq") 854) (Value.ref 274)), (DictEntry.mk (PyData.keyHash P (Str.ofString "Lt")) (Value.str (Str.ofString "Lt") 856) (Value.ref 275)), (DictEntry.mk (PyData.keyHash P (Str.ofString "LtE")) (Value.str (Str.ofString "LtE") 858) (Value.ref 276)), (DictEntry.mk (PyData.keyHash P (Str.ofString "Gt")) (Value.str (Str.ofString "Gt") 860) (Value.ref 277)), (DictEntry.mk (PyData.keyHash P (Str.ofString "GtE")) (Value.str (Str.ofString "GtE") 862) (Value.ref 278)), (DictEntry.mk (PyData.keyHash P (Str.ofString "Is")) (Value.str (Str.ofString "Is") 864) (Value.ref 279)), (DictEntry.mk (PyData.keyHash P (Str.ofString "IsNot")) (Value.str (Str.ofString "IsNot") 866) (Value.ref 280)), (DictEntry.mk (PyData.keyHash P (Str.ofString "In")) (Value.str (Str.ofString "In") 868) (Value.ref 281)), (DictEntry.mk (PyData.keyHash P (Str.ofString "NotIn")) (Value.str (Str.ofString "NotIn") 870) (Value.ref 282))]) 102) (List.toArray [])))
def o_53 : Params → Obj := (fun P => (Obj.mk (Value.type "tuple") (Option.none) (Data.seq (List.toArray [(Value.str (Str.ofString "body") 192), (Value.str (Str.ofString "STMT") 193), (Value.str (Str.ofString "*") 194)]) 0) (List.toArray [])))
def o_54 : Params → Obj := (fun P => (Obj.mk (Value.type "tuple") (Option.none) (Data.seq (List.toArray [(Value.ref 17)]) 0) (List.toArray [])))
def o_55 : Params → Obj := (fun P => (Obj.mk (Value.type "tuple") (Option.none) (Data.seq (List.toArray [(Value.str (Str.ofString "body") 197), (Value.str (Str.ofString "EXPR") 198), (Value.str (Str.ofString "") 199)]) 0) (List.toArray [])))
def o_56 : Params → Obj := (fun P => (Obj.mk (Value.type "tuple") (Option.none) (Data.seq (List.toArray [(Value.ref 19)]) 0) (List.toArray [])))
def o_57 : Params → Obj := (fun P => (Obj.mk (Value.type "tuple") (Option.none) (Data.seq (List.toArray [(Value.str (Str.ofString "name") 202), (Value.str (Str.ofString "NAME") 203), (Value.str (Str.ofString "") 204)]) 0) (List.toArray [])))
def o_58 : Params → Obj := (fun P => (Obj.mk (Value.type "tuple") (Option.none) (Data.seq (List.toArray [(Value.str (Str.ofString "args") 205), (Value.str (Str.ofString "arguments") 206), (Value.str (Str.ofString "") 207)]) 0) (List.toArray [])))
def o_59 : Params → Obj := (fun P => (Obj.mk (Value.type "tuple") (Option.none) (Data.seq (List.toArray [(Value.str (Str.ofString "body") 208), (Value.str (Str.ofString "STMT") 209), (Value.str (Str.ofString "+") 210)]) 0) (List.toArray [])))
def o_60 : Params → Obj := (fun P => (Obj.mk (Value.type "tuple") (Option.none) (Data.seq (List.toArray [(Value.str (Str.ofString "decorator_list") 211), (Value.str (Str.ofString "EXPR") 212), (Value.str (Str.ofString "*") 213)]) 0) (List.toArray [])))
def o_61 : Params → Obj := (fun P => (Obj.mk (Value.type "tuple") (Option.none) (Data.seq (List.toArray [(Value.str (Str.ofString "returns") 214), (Value.str (Str.ofString "EXPR") 215), (Value.str (Str.ofString "?") 216)]) 0) (List.toArray [])))
def o_62 : Params → Obj := (fun P => (Obj.mk (Value.type "tuple") (Option.none) (Data.seq (List.toArray [(Value.ref 21), (Value.ref 22), (Value.ref 23), (Value.ref 24), (Value.ref 25)]) 0) (List.toArray [])))
def o_63 : Params → Obj := (fun P => (Obj.mk (Value.type "tuple") (Option.none) (Data.seq (List.toArray [(Value.str (Str.ofString "name") 219), (Value.str (Str.ofString "NAME") 220), (Value.str (Str.ofString "") 221)]) 0) (List.toArray [])))
def o_64 : Params → Obj := (fun P => (Obj.mk (Value.type "tuple") (Option.none) (Data.seq (List.toArray [(Value.str (Str.ofString "args") 222), (Value.str (Str.ofString "arguments") 223), (Value.str (Str.ofString "") 224)]) 0) (List.toArray [])))
def o_65 : Params → Obj := (fun P => (Obj.mk (Value.type "tuple") (Option.none) (Data.seq (List.toArray [(Value.str (Str.ofString "body") 225), (Value.str (Str.ofString "STMT") 226), (Value.str (Str.ofString "+") 227)]) 0) (List.toArray [])))
def o_66 : Params → Obj := (fun P => (Obj.mk (Value.type "tuple") (Option.none) (Data.seq (List.toArray [(Value.str (Str.ofString "decorator_list") 228), (Value.str (Str.ofString "EXPR") 229), (Value.str (Str.ofString "*") 230)]) 0) (List.toArray [])))
def o_67 : Params → Obj := (fun P => (Obj.mk (Value.type "tuple") (Option.none) (Data.seq (List.toArray [(Value.str (Str.ofString "returns") 231), (Value.str (Str.ofString "EXPR") 232), (Value.str (Str.ofString "?") 233)]) 0) (List.toArray [])))
def o_68 : Params → Obj := (fun P => (Obj.mk (Value.type "tuple") (Option.none) (Data.seq (List.toArray [(Value.ref 27), (Value.ref 28), (Value.ref 29), (Value.ref 30), (Value.ref 31)]) 0) (List.toArray [])))
def o_69 : Params → Obj := (fun P => (Obj.mk (Value.type "tuple") (Option.none) (Data.seq (List.toArray [(Value.str (Str.ofString "name") 236), (Value.str (Str.ofString "NAME") 237), (Value.str (Str.ofString "") 238)]) 0) (List.toArray [])))
def o_70 : Params → Obj := (fun P => (Obj.mk (Value.type "tuple") (Option.none) (Data.seq (List.toArray [(Value.str (Str.ofString "bases") 239), (Value.str (Str.ofString "EXPR") 240), (Value.str (Str.ofString "*") 241)]) 0) (List.toArray [])))
def o_71 : Params → Obj := (fun P => (Obj.mk (Value.type "tuple") (Option.none) (Data.seq (List.toArray [(Value.str (Str.ofString "keywords") 242), (Value.str (Str.ofString "keyword") 243), (Value.str (Str.ofString "*") 244)]) 0) (List.toArray [])))
def o_72 : Params → Obj := (fun P => (Obj.mk (Value.type "tuple") (Option.none) (Data.seq (List.toArray [(Value.str (Str.ofString "body") 245), (Value.str (Str.ofString "STMT") 246), (Value.str (Str.ofString "+") 247)]) 0) (List.toArray [])))
def o_73 : Params → Obj := (fun P => (Obj.mk (Value.type "tuple") (Option.none) (Data.seq (List.toArray [(Value.str (Str.ofString "decorator_list") 248), (Value.str (Str.ofString "EXPR") 249), (Value.str (Str.ofString "*") 250)]) 0) (List.toArray [])))
def o_74 : Params → Obj := (fun P => (Obj.mk (Value.type "tuple") (Option.none) (Data.seq (List.toArray [(Value.ref 33), (Value.ref 34), (Value.ref 35), (Value.ref 36), (Value.ref 37)]) 0) (List.toArray [])))
def o_75 : Params → Obj := (fun P => (Obj.mk (Value.type "tuple") (Option.none) (Data.seq (List.toArray [(Value.str (Str.ofString "value") 253), (Value.str (Str.ofString "EXPR") 254), (Value.str (Str.ofString "?") 255)]) 0) (List.toArray [])))
def o_76 : Params → Obj := (fun P => (Obj.mk (Value.type "tuple") (Option.none) (Data.seq (List.toArray [(Value.ref 39)]) 0) (List.toArray [])))
def o_77 : Params → Obj := (fun P => (Obj.mk (Value.type "tuple") (Option.none) (Data.seq (List.toArray [(Value.str (Str.ofString "targets") 258), (Value.str (Str.ofString "EXPR") 259), (Value.str (Str.ofString "+") 260)]) 0) (List.toArray [])))
def o_78 : Params → Obj := (fun P => (Obj.mk (Value.type "tuple") (Option.none) (Data.seq (List.toArray [(Value.ref 41)]) 0) (List.toArray [])))
def o_79 : Params → Obj := (fun P => (Obj.mk (Value.type "tuple") (Option.none) (Data.seq (List.toArray [(Value.str (Str.ofString "targets") 263), (Value.str (Str.ofString "EXPR") 264), (Value.str (Str.ofString "+") 265)]) 0) (List.toArray [])))
def o_80 : Params → Obj := (fun P => (Obj.mk (Value.type "tuple") (Option.none) (Data.seq (List.toArray [(Value.str (Str.ofString "value") 266), (Value.str (Str.ofString "EXPR") 267), (Value.str (Str.ofString "") 268)]) 0) (List.toArray [])))
def o_81 : Params → Obj := (fun P => (Obj.mk (Value.type "tuple") (Option.none) (Data.seq (List.toArray [(Value.ref 43), (Value.ref 44)]) 0) (List.toArray [])))
def o_82 : Params → Obj := (fun P => (Obj.mk (Value.type "tuple") (Option.none) (Data.seq (List.toArray [(Value.str (Str.ofString "target") 271), (Value.str (Str.ofString "EXPR") 272), (Value.str (Str.ofString "") 273)]) 0) (List.toArray [])))
def o_83 : Params → Obj := (fun P => (Obj.mk (Value.type "tuple") (Option.none) (Data.seq (List.toArray [(Value.str (Str.ofString "op") 274), (Value.str (Str.ofString "OPERATOR") 275), (Value.str (Str.ofString "") 276)]) 0) (List.toArray [])))
def o_84 : Params → Obj := (fun P => (Obj.mk (Value.type "tuple") (Option.none) (Data.seq (List.toArray [(Value.str (Str.ofString "value") 277), (Value.str (Str.ofString "EXPR") 278), (Value.str (Str.ofString "") 279)]) 0) (List.toArray [])))
def o_85 : Params → Obj := (fun P => (Obj.mk (Value.type "tuple") (Option.none) (Data.seq (List.toArray [(Value.ref 46), (Value.ref 47), (Value.ref 48)]) 0) (List.toArray [])))
def o_86 : Params → Obj := (fun P => (Obj.mk (Value.type "tuple") (Option.none) (Data.seq (List.toArray [(Value.str (Str.ofString "target") 282), (Value.str (Str.ofString "EXPR") 283), (Value.str (Str.ofString "") 284)]) 0) (List.toArray [])))
def o_87 : Params → Obj := (fun P => (Obj.mk (Value.type "tuple") (Option.none) (Data.seq (List.toArray [(Value.str (Str.ofString "annotation") 285), (Value.str (Str.ofString "EXPR") 286), (Value.str (Str.ofString "") 287)]) 0) (List.toArray [])))
def o_88 : Params → Obj := (fun P => (Obj.mk (Value.type "tuple") (Option.none) (Data.seq (List.toArray [(Value.str (Str.ofString "value") 288), (Value.str (Str.ofString "EXPR") 289), (Value.str (Str.ofString "?") 290)]) 0) (List.toArray [])))
def o_89 : Params → Obj := (fun P => (Obj.mk (Value.type "tuple") (Option.none) (Data.seq (List.toArray [(Value.str (Str.ofString "simple") 291), (Value.str (Str.ofString "BIT") 292), (Value.str (Str.ofString "") 293)]) 0) (List.toArray [])))
def o_90 : Params → Obj := (fun P => (Obj.mk (Value.type "tuple") (Option.none) (Data.seq (List.toArray [(Value.ref 50), (Value.ref 51), (Value.ref 52), (Value.ref 53)]) 0) (List.toArray [])))
def o_91 : Params → Obj := (fun P => (Obj.mk (Value.type "tuple") (Option.none) (Data.seq (List.toArray [(Value.str (Str.ofString "target") 296), (Value.str (Str.ofString "EXPR") 297), (Value.str (Str.ofString "") 298)]) 0) (List.toArray [])))
def o_92 : Params → Obj := (fun P => (Obj.mk (Value.type "tuple") (Option.none) (Data.seq (List.toArray [(Value.str (Str.ofString "iter") 299), (Value.str (Str.ofString "EXPR") 300), (Value.str (Str.ofString "") 301)]) 0) (List.toArray [])))
def o_93 : Params → Obj := (fun P => (Obj.mk (Value.type "tuple") (Option.none) (Data.seq (List.toArray [(Value.str (Str.ofString "body") 302), (Value.str (Str.ofString "STMT") 303), (Value.str (Str.ofString "+") 304)]) 0) (List.toArray [])))
def o_94 : Params → Obj := (fun P => (Obj.mk (Value.type "tuple") (Option.none) (Data.seq (List.toArray [(Value.str (Str.ofString "orelse") 305), (Value.str (Str.ofString "STMT") 306), (Value.str (Str.ofString "*") 307)]) 0) (List.toArray [])))
def o_95 : Params → Obj := (fun P => (Obj.mk (Value.type "tuple") (Option.none) (Data.seq (List.toArray [(Value.ref 55), (Value.ref 56), (Value.ref 57), (Value.ref 58)]) 0) (List.toArray [])))
def o_96 : Params → Obj := (fun P => (Obj.mk (Value.type "tuple") (Option.none) (Data.seq (List.toArray [(Value.str (Str.ofString "target") 310), (Value.str (Str.ofString "EXPR") 311), (Value.str (Str.ofString "") 312)]) 0) (List.toArray [])))
def o_97 : Params → Obj := (fun P => (Obj.mk (Value.type "tuple") (Option.none) (Data.seq (List.toArray [(Value.str (Str.ofString "iter") 313), (Value.str (Str.ofString "EXPR") 314), (Value.str (Str.ofString "") 315)]) 0) (List.toArray [])))
def o_98 : Params → Obj := (fun P => (Obj.mk (Value.type "tuple") (Option.none) (Data.seq (List.toArray [(Value.str (Str.ofString "body") 316), (Value.str (Str.ofString "STMT") 317), (Value.str (Str.ofString "+") 318)]) 0) (List.toArray [])))
def o_99 : Params → Obj := (fun P => (Obj.mk (Value.type "tuple") (Option.none) (Data.seq (List.toArray [(Value.str (Str.ofString "orelse") 319), (Value.str (Str.ofString "STMT") 320), (Value.str (Str.ofString "*") 321)]) 0) (List.toArray [])))
def o_100 : Params → Obj := (fun P => (Obj.mk (Value.type "tuple") (Option.none) (Data.seq (List.toArray [(Value.ref 60), (Value.ref 61), (Value.ref 62), (Value.ref 63)]) 0) (List.toArray [])))
def o_101 : Params → Obj := (fun P => (Obj.mk (Value.type "tuple") (Option.none) (Data.seq (List.toArray [(Value.str (Str.ofString "test") 324), (Value.str (Str.ofString "EXPR") 325), (Value.str (Str.ofString "") 326)]) 0) (List.toArray [])))
def o_102 : Params → Obj := (fun P => (Obj.mk (Value.type "tuple") (Option.none) (Data.seq (List.toArray [(Value.str (Str.ofString "body") 327), (Value.str (Str.ofString "STMT") 328), (Value.str (Str.ofString "+") 329)]) 0) (List.toArray [])))
def o_103 : Params → Obj := (fun P => (Obj.mk (Value.type "tuple") (Option.none) (Data.seq (List.toArray [(Value.str (Str.ofString "orelse") 330), (Value.str (Str.ofString "STMT") 331), (Value.str (Str.ofString "*") 332)]) 0) (List.toArray [])))
def o_104 : Params → Obj := (fun P => (Obj.mk (Value.type "tuple") (Option.none) (Data.seq (List.toArray [(Value.ref 65), (Value.ref 66), (Value.ref 67)]) 0) (List.toArray [])))
def o_105 : Params → Obj := (fun P => (Obj.mk (Value.type "tuple") (Option.none) (Data.seq (List.toArray [(Value.str (Str.ofString "test") 335), (Value.str (Str.ofString "EXPR") 336), (Value.str (Str.ofString "") 337)]) 0) (List.toArray [])))
def o_106 : Params → Obj := (fun P => (Obj.mk (Value.type "tuple") (Option.none) (Data.seq (List.toArray [(Value.str (Str.ofString "body") 338), (Value.str (Str.ofString "STMT") 339), (Value.str (Str.ofString "+") 340)]) 0) (List.toArray [])))
def o_107 : Params → Obj := (fun P => (Obj.mk (Value.type "tuple") (Option.none) (Data.seq (List.toArray [(Value.str (Str.ofString "orelse") 341), (Value.str (Str.ofString "STMT") 342), (Value.str (Str.ofString "*") 343)]) 0) (List.toArray [])))
def o_108 : Params → Obj := (fun P => (Obj.mk (Value.type "tuple") (Option.none) (Data.seq (List.toArray [(Value.ref 69), (Value.ref 70), (Value.ref 71)]) 0) (List.toArray [])))
def o_109 : Params → Obj := (fun P => (Obj.mk (Value.type "tuple") (Option.none) (Data.seq (List.toArray [(Value.str (Str.ofString "items") 346), (Value.str (Str.ofString "withitem") 347), (Value.str (Str.ofString "+") 348)]) 0) (List.toArray [])))
def o_110 : Params → Obj := (fun P => (Obj.mk (Value.type "tuple") (Option.none) (Data.seq (List.toArray [(Value.str (Str.ofString "body") 349), (Value.str (Str.ofString "STMT") 350), (Value.str (Str.ofString "+") 351)]) 0) (List.toArray [])))
def o_111 : Params → Obj := (fun P => (Obj.mk (Value.type "tuple") (Option.none) (Data.seq (List.toArray [(Value.ref 73), (Value.ref 74)]) 0) (List.toArray [])))
def o_112 : Params → Obj := (fun P => (Obj.mk (Value.type "tuple") (Option.none) (Data.seq (List.toArray [(Value.str (Str.ofString "items") 354), (Value.str (Str.ofString "withitem") 355), (Value.str (Str.ofString "+") 356)]) 0) (List.toArray [])))
def o_113 : Params → Obj := (fun P => (Obj.mk (Value.type "tuple") (Option.none) (Data.seq (List.toArray [(Value.str (Str.ofString "body") 357), (Value.str (Str.ofString "STMT") 358), (Value.str (Str.ofString "+") 359)]) 0) (List.toArray [])))
def o_114 : Params → Obj := (fun P => (Obj.mk (Value.type "tuple") (Option.none) (Data.seq (List.toArray [(Value.ref 76), (Value.ref 77)]) 0) (List.toArray [])))
def o_115 : Params → Obj := (fun P => (Obj.mk (Value.type "tuple") (Option.none) (Data.seq (List.toArray [(Value.str (Str.ofString "subject") 362), (Value.str (Str.ofString "EXPR") 363), (Value.str (Str.ofString "") 364)]) 0) (List.toArray [])))
def o_116 : Params → Obj := (fun P => (Obj.mk (Value.type "tuple") (Option.none) (Data.seq (List.toArray [(Value.str (Str.ofString "cases") 365), (Value.str (Str.ofString "match_case") 366), (Value.str (Str.ofString "+") 367)]) 0) (List.toArray [])))
def o_117 : Params → Obj := (fun P => (Obj.mk (Value.type "tuple") (Option.none) (Data.seq (List.toArray [(Value.ref 79), (Value.ref 80)]) 0) (List.toArray [])))
def o_118 : Params → Obj := (fun P => (Obj.mk (Value.type "dict") (Option.none) (Data.dict (List.toArray [(DictEntry.mk (PyData.keyHash P (Str.ofString "Raise")) (Value.str (Str.ofString "Raise") 369) (Value.ref 85)), (DictEntry.mk (PyData.keyHash P (Str.ofString "Assert")) (Value.str (Str.ofString "Assert") 377) (Value.ref 88)), (DictEntry.mk (PyData.keyHash P (Str.ofString "Try")) (Value.str (Str.ofString "Try") 385) (Value.ref 93)), (DictEntry.mk (PyData.keyHash P (Str.ofString "Import")) (Value.str (Str.ofString "Import") 399) (Value.ref 95)), (DictEntry.mk (PyData.keyHash P (Str.ofString "ImportFrom")) (Value.str (Str.ofString "ImportFrom") 404) (Value.ref 99)), (DictEntry.mk (PyData.keyHash P (Str.ofString "Global")) (Value.str (Str.ofString "Global") 415) (Value.ref 101)), (DictEntry.mk (PyData.keyHash P (Str.ofString "Nonlocal")) (Value.str (Str.ofString "Nonlocal") 420) (Value.ref 103)), (DictEntry.mk (PyData.keyHash P (Str.ofString "Expr")) (Value.str (Str.ofString "Expr") 425) (Value.ref 105)), (DictEntry.mk (PyData.keyHash P (Str.ofString "Pass")) (Value.str (Str.ofString "Pass") 430) (Value.ref 106)), (DictEntry.mk (PyData.keyHash P (Str.ofString "Break")) (Value.str (Str.ofString "Break") 432) (Value.ref 107)), (DictEntry.mk (PyData.keyHash P (Str.ofString "Continue")) (Value.str (Str.ofString "Continue") 434) (Value.ref 108)), (DictEntry.mk (PyData.keyHash P (Str.ofString "BoolOp")) (Value.str (Str.ofString "BoolOp") 436) (Value.ref 111)), (DictEntry.mk (PyData.keyHash P (Str.ofString "NamedExpr")) (Value.str (Str.ofString "NamedExpr") 444) (Value.ref 114)), (DictEntry.mk (PyData.keyHash P (Str.ofString "BinOp")) (Value.str (Str.ofString "BinOp") 452) (Value.ref 118)), (DictEntry.mk (PyData.keyHash P (Str.ofString "UnaryOp")) (Value.str (Str.ofString "UnaryOp") 463) (Value.ref 121)), (DictEntry.mk (PyData.keyHash P (Str.ofString "Lambda")) (Value.str (Str.ofString "Lambda") 471) (Value.ref 124)), (DictEntry.mk (PyData.keyHash P (Str.ofString "IfExp")) (Value.str (Str.ofString "IfExp") 479) (Value.ref 128))]) 17) (List.toArray [])))
def o_119 : Params → Obj := (fun P => (Obj.mk (Value.type "tuple") (Option.none) (Data.seq (List.toArray [(Value.str (Str.ofString "exc") 370), (Value.str (Str.ofString "EXPR") 371), (Value.str (Str.ofString "?") 372)]) 0) (List.toArray [])))
def o_120 : Params → Obj := (fun P => (Obj.mk (Value.type "tuple") (Option.none) (Data.seq (List.toArray [(Value.str (Str.ofString "cause") 373), (Value.str (Str.ofString "EXPR") 374), (Value.str (Str.ofString "?") 375)]) 0) (List.toArray [])))
def o_121 : Params → Obj := (fun P => (Obj.mk (Value.type "tuple") (Option.none) (Data.seq (List.toArray [(Value.ref 83), (Value.ref 84)]) 0) (List.toArray [])))
def o_122 : Params → Obj := (fun P => (Obj.mk (Value.type "tuple") (Option.none) (Data.seq (List.toArray [(Value.str (Str.ofString "test") 378), (Value.str (Str.ofString "EXPR") 379), (Value.str (Str.ofString "") 380)]) 0) (List.toArray [])))
def o_123 : Params → Obj := (fun P => (Obj.mk (Value.type "tuple") (Option.none) (Data.seq (List.toArray [(Value.str (Str.ofString "msg") 381), (Value.str (Str.ofString "EXPR") 382), (Value.str (Str.ofString "?") 383)]) 0) (List.toArray [])))
def o_124 : Params → Obj := (fun P => (Obj.mk (Value.type "tuple") (Option.none) (Data.seq (List.toArray [(Value.ref 86), (Value.ref 87)]) 0) (List.toArray [])))
def o_125 : Params → Obj := (fun P => (Obj.mk (Value.type "tuple") (Option.none) (Data.seq (List.toArray [(Value.str (Str.ofString "body") 386), (Value.str (Str.ofString "STMT") 387), (Value.str (Str.ofString "+") 388)]) 0) (List.toArray [])))
def o_126 : Params → Obj := (fun P => (Obj.mk (Value.type "tuple") (Option.none) (Data.seq (List.toArray [(Value.str (Str.ofString "handlers") 389), (Value.str (Str.ofString "ExceptHandler") 390), (Value.str (Str.ofString "*") 391)]) 0) (List.toArray [])))
def o_127 : Params → Obj := (fun P => (Obj.mk (Value.type "tuple") (Option.none) (Data.seq (List.toArray [(Value.str (Str.ofString "orelse") 392), (Value.str (Str.ofString "STMT") 393), (Value.str (Str.ofString "*") 394)]) 0) (List.toArray [])))
def o_128 : Params → Obj := (fun P => (Obj.mk (Value.type "tuple") (Option.none) (Data.seq (List.toArray [(Value.str (Str.ofString "finalbody") 395), (Value.str (Str.ofString "STMT") 396), (Value.str (Str.ofString "*") 397)]) 0) (List.toArray [])))
def o_129 : Params → Obj := (fun P => (Obj.mk (Value.type "tuple") (Option.none) (Data.seq (List.toArray [(Value.ref 89), (Value.ref 90), (Value.ref 91), (Value.ref 92)]) 0) (List.toArray [])))
def o_130 : Params → Obj := (fun P => (Obj.mk (Value.type "tuple") (Option.none) (Data.seq (List.toArray [(Value.str (Str.ofString "names") 400), (Value.str (Str.ofString "alias") 401), (Value.str (Str.ofString "+") 402)]) 0) (List.toArray [])))
def o_131 : Params → Obj := (fun P => (Obj.mk (Value.type "tuple") (Option.none) (Data.seq (List.toArray [(Value.ref 94)]) 0) (List.toArray [])))
def o_132 : Params → Obj := (fun P => (Obj.mk (Value.type "tuple") (Option.none) (Data.seq (List.toArray [(Value.str (Str.ofString "module") 405), (Value.str (Str.ofString "DOTTED") 406), (Value.str (Str.ofString "?") 407)]) 0) (List.toArray [])))
def o_133 : Params → Obj := (fun P => (Obj.mk (Value.type "tuple") (Option.none) (Data.seq (List.toArray [(Value.str (Str.ofString "names") 408), (Value.str (Str.ofString "alias") 409), (Value.str (Str.ofString "+") 410)]) 0) (List.toArray [])))
def o_134 : Params → Obj := (fun P => (Obj.mk (Value.type "tuple") (Option.none) (Data.seq (List.toArray [(Value.str (Str.ofString "level") 411), (Value.str (Str.ofString "COUNT") 412), (Value.str (Str.ofString "") 413)]) 0) (List.toArray [])))
def o_135 : Params → Obj := (fun P => (Obj.mk (Value.type "tuple") (Option.none) (Data.seq (List.toArray [(Value.ref 96), (Value.ref 97), (Value.ref 98)]) 0) (List.toArray [])))
def o_136 : Params → Obj := (fun P => (Obj.mk (Value.type "tuple") (Option.none) (Data.seq (List.toArray [(Value.str (Str.ofString "names") 416), (Value.str (Str.ofString "NAME") 417), (Value.str (Str.ofString "+") 418)]) 0) (List.toArray [])))
def o_137 : Params → Obj := (fun P => (Obj.mk (Value.type "tuple") (Option.none) (Data.seq (List.toArray [(Value.ref 100)]) 0) (List.toArray [])))
def o_138 : Params → Obj := (fun P => (Obj.mk (Value.type "tuple") (Option.none) (Data.seq (List.toArray [(Value.str (Str.ofString "names") 421), (Value.str (Str.ofString "NAME") 422), (Value.str (Str.ofString "+") 423)]) 0) (List.toArray [])))
def o_139 : Params → Obj := (fun P => (Obj.mk (Value.type "tuple") (Option.none) (Data.seq (List.toArray [(Value.ref 102)]) 0) (List.toArray [])))
def o_140 : Params → Obj := (fun P => (Obj.mk (Value.type "tuple") (Option.none) (Data.seq (List.toArray [(Value.str (Str.ofString "value") 426), (Value.str (Str.ofString "EXPR") 427), (Value.str (Str.ofString "") 428)]) 0) (List.toArray [])))
def o_141 : Params → Obj := (fun P => (Obj.mk (Value.type "tuple") (Option.none) (Data.seq (List.toArray [(Value.ref 104)]) 0) (List.toArray [])))
def o_142 : Params → Obj := (fun P => (Obj.mk (Value.type "tuple") (Option.none) (Data.seq (List.toArray []) 0) (List.toArray [])))
def o_143 : Params → Obj := (fun P => (Obj.mk (Value.type "tuple") (Option.none) (Data.seq (List.toArray []) 0) (List.toArray [])))
def o_144 : Params → Obj := (fun P => (Obj.mk (Value.type "tuple") (Option.none) (Data.seq (List.toArray []) 0) (List.toArray [])))
def o_145 : Params → Obj := (fun P => (Obj.mk (Value.type "tuple") (Option.none) (Data.seq (List.toArray [(Value.str (Str.ofString "op") 437), (Value.str (Str.ofString "BOOLEAN") 438), (Value.str (Str.ofString "") 439)]) 0) (List.toArray [])))
def o_146 : Params → Obj := (fun P => (Obj.mk (Value.type "tuple") (Option.none) (Data.seq (List.toArray [(Value.str (Str.ofString "values") 440), (Value.str (Str.ofString "EXPR") 441), (Value.str (Str.ofString "+") 442)]) 0) (List.toArray [])))
def o_147 : Params → Obj := (fun P => (Obj.mk (Value.type "tuple") (Option.none) (Data.seq (List.toArray [(Value.ref 109), (Value.ref 110)]) 0) (List.toArray [])))
def o_148 : Params → Obj := (fun P => (Obj.mk (Value.type "tuple") (Option.none) (Data.seq (List.toArray [(Value.str (Str.ofString "target") 445), (Value.str (Str.ofString "EXPR") 446), (Value.str (Str.ofString "") 447)]) 0) (List.toArray [])))
def o_149 : Params → Obj := (fun P => (Obj.mk (Value.type "tuple") (Option.none) (Data.seq (List.toArray [(Value.str (Str.ofString "value") 448), (Value.str (Str.ofString "EXPR") 449), (Value.str (Str.ofString "") 450)]) 0) (List.toArray [])))
def o_150 : Params → Obj := (fun P => (Obj.mk (Value.type "tuple") (Option.none) (Data.seq (List.toArray [(Value.ref 112), (Value.ref 113)]) 0) (List.toArray [])))
def o_151 : Params → Obj := (fun P => (Obj.mk (Value.type "tuple") (Option.none) (Data.seq (List.toArray [(Value.str (Str.ofString "left") 453), (Value.str (Str.ofString "EXPR") 454), (Value.str (Str.ofString "") 455)]) 0) (List.toArray [])))
def o_152 : Params → Obj := (fun P => (Obj.mk (Value.type "tuple") (Option.none) (Data.seq (List.toArray [(Value.str (Str.ofString "op") 456), (Value.str (Str.ofString "OPERATOR") 457), (Value.str (Str.ofString "") 458)]) 0) (List.toArray [])))
def o_153 : Params → Obj := (fun P => (Obj.mk (Value.type "tuple") (Option.none) (Data.seq (List.toArray [(Value.str (Str.ofString "right") 459), (Value.str (Str.ofString "EXPR") 460), (Value.str (Str.ofString "") 461)]) 0) (List.toArray [])))
def o_154 : Params → Obj := (fun P => (Obj.mk (Value.type "tuple") (Option.none) (Data.seq (List.toArray [(Value.ref 115), (Value.ref 116), (Value.ref 117)]) 0) (List.toArray [])))
def o_155 : Params → Obj := (fun P => (Obj.mk (Value.type "tuple") (Option.none) (Data.seq (List.toArray [(Value.str (Str.ofString "op") 464), (Value.str (Str.ofString "UNARY") 465), (Value.str (Str.ofString "") 466)]) 0) (List.toArray [])))
def o_156 : Params → Obj := (fun P => (Obj.mk (Value.type "tuple") (Option.none) (Data.seq (List.toArray [(Value.str (Str.ofString "operand") 467), (Value.str (Str.ofString "EXPR") 468), (Value.str (Str.ofString "") 469)]) 0) (List.toArray [])))
def o_157 : Params → Obj := (fun P => (Obj.mk (Value.type "tuple") (Option.none) (Data.seq (List.toArray [(Value.ref 119), (Value.ref 120)]) 0) (List.toArray [])))
def o_158 : Params → Obj := (fun P => (Obj.mk (Value.type "tuple") (Option.none) (Data.seq (List.toArray [(Value.str (Str.ofString "args") 472), (Value.str (Str.ofString "arguments") 473), (Value.str (Str.ofString "") 474)]) 0) (List.toArray [])))
def o_159 : Params → Obj := (fun P => (Obj.mk (Value.type "tuple") (Option.none) (Data.seq (List.toArray [(Value.str (Str.ofString "body") 475), (Value.str (Str.ofString "EXPR") 476), (Value.str (Str.ofString "") 477)]) 0) (List.toArray [])))
def o_160 : Params → Obj := (fun P => (Obj.mk (Value.type "tuple") (Option.none) (Data.seq (List.toArray [(Value.ref 122), (Value.ref 123)]) 0) (List.toArray [])))
def o_161 : Params → Obj := (fun P => (Obj.mk (Value.type "tuple") (Option.none) (Data.seq (List.toArray [(Value.str (Str.ofString "test") 480), (Value.str (Str.ofString "EXPR") 481), (Value.str (Str.ofString "") 482)]) 0) (List.toArray [])))
def o_162 : Params → Obj := (fun P => (Obj.mk (Value.type "tuple") (Option.none) (Data.seq (List.toArray [(Value.str (Str.ofString "body") 483), (Value.str (Str.ofString "EXPR") 484), (Value.str (Str.ofString "") 485)]) 0) (List.toArray [])))
def o_163 : Params → Obj := (fun P => (Obj.mk (Value.type "tuple") (Option.none) (Data.seq (List.toArray [(Value.str (Str.ofString "orelse") 486), (Value.str (Str.ofString "EXPR") 487), (Value.str (Str.ofString "") 488)]) 0) (List.toArray [])))
def o_164 : Params → Obj := (fun P => (Obj.mk (Value.type "tuple") (Option.none) (Data.seq (List.toArray [(Value.ref 125), (Value.ref 126), (Value.ref 127)]) 0) (List.toArray [])))
def o_165 : Params → Obj := (fun P => (Obj.mk (Value.type "dict") (Option.none) (Data.dict (List.toArray [(DictEntry.mk (PyData.keyHash P (Str.ofString "Dict")) (Value.str (Str.ofString "Dict") 490) (Value.ref 132)), (DictEntry.mk (PyData.keyHash P (Str.ofString "Set")) (Value.str (Str.ofString "Set") 498) (Value.ref 134)), (DictEntry.mk (PyData.keyHash P (Str.ofString "ListComp")) (Value.str (Str.ofString "ListComp") 503) (Value.ref 137)), (DictEntry.mk (PyData.keyHash P (Str.ofString "SetComp")) (Value.str (Str.ofString "SetComp") 511) (Value.ref 140)), (DictEntry.mk (PyData.keyHash P (Str.ofString "GeneratorExp")) (Value.str (Str.ofString "GeneratorExp") 519) (Value.ref 143)), (DictEntry.mk (PyData.keyHash P (Str.ofString "DictComp")) (Value.str (Str.ofString "DictComp") 527) (Value.ref 147)), (DictEntry.mk (PyData.keyHash P (Str.ofString "Await")) (Value.str (Str.ofString "Await") 538) (Value.ref 149)), (DictEntry.mk (PyData.keyHash P (Str.ofString "Yield")) (Value.str (Str.ofString "Yield") 543) (Value.ref 151)), (DictEntry.mk (PyData.keyHash P (Str.ofString "YieldFrom")) (Value.str (Str.ofString "YieldFrom") 548) (Value.ref 153)), (DictEntry.mk (PyData.keyHash P (Str.ofString "Compare")) (Value.str (Str.ofString "Compare") 553) (Value.ref 157)), (DictEntry.mk (PyData.keyHash P (Str.ofString "Call")) (Value.str (Str.ofString "Call") 564) (Value.ref 161)), (DictEntry.mk (PyData.keyHash P (Str.ofString "FormattedValue")) (Value.str (Str.ofString "FormattedValue") 575) (Value.ref 165)), (DictEntry.mk (PyData.keyHash P (Str.ofString "JoinedStr")) (Value.str (Str.ofString "JoinedStr") 586) (Value.ref 167)), (DictEntry.mk (PyData.keyHash P (Str.ofString "Constant")) (Value.str (Str.ofString "Constant") 591) (Value.ref 169)), (DictEntry.mk (PyData.keyHash P (Str.ofString "Attribute")) (Value.str (Str.ofString "Attribute") 596) (Value.ref 173)), (DictEntry.mk (PyData.keyHash P (Str.ofString "Subscript")) (Value.str (Str.ofString "Subscript") 607) (Value.ref 177)), (DictEntry.mk (PyData.keyHash P (Str.ofString "Starred")) (Value.str (Str.ofString "Starred") 618) (Value.ref 180))]) 17) (List.toArray [])))
def o_166 : Params → Obj := (fun P => (Obj.mk (Value.type "tuple") (Option.none) (Data.seq (List.toArray [(Value.str (Str.ofString "keys") 491), (Value.str (Str.ofString "EXPR") 492), (Value.str (Str.ofString "?*") 493)]) 0) (List.toArray [])))
def o_167 : Params → Obj := (fun P => (Obj.mk (Value.type "tuple") (Option.none) (Data.seq (List.toArray [(Value.str (Str.ofString "values") 494), (Value.str (Str.ofString "EXPR") 495), (Value.str (Str.ofString "*") 496)]) 0) (List.toArray [])))
def o_168 : Params → Obj := (fun P => (Obj.mk (Value.type "tuple") (Option.none) (Data.seq (List.toArray [(Value.ref 130), (Value.ref 131)]) 0) (List.toArray [])))
def o_169 : Params → Obj := (fun P => (Obj.mk (Value.type "tuple") (Option.none) (Data.seq (List.toArray [(Value.str (Str.ofString "elts") 499), (Value.str (Str.ofString "EXPR") 500), (Value.str (Str.ofString "+") 501)]) 0) (List.toArray [])))
def o_170 : Params → Obj := (fun P => (Obj.mk (Value.type "tuple") (Option.none) (Data.seq (List.toArray [(Value.ref 133)]) 0) (List.toArray [])))
def o_171 : Params → Obj := (fun P => (Obj.mk (Value.type "tuple") (Option.none) (Data.seq (List.toArray [(Value.str (Str.ofString "elt") 504), (Value.str (Str.ofString "EXPR") 505), (Value.str (Str.ofString "") 506)]) 0) (List.toArray [])))
def o_172 : Params → Obj := (fun P => (Obj.mk (Value.type "tuple") (Option.none) (Data.seq (List.toArray [(Value.str (Str.ofString "generators") 507), (Value.str (Str.ofString "comprehension") 508), (Value.str (Str.ofString "+") 509)]) 0) (List.toArray [])))
def o_173 : Params → Obj := (fun P => (Obj.mk (Value.type "tuple") (Option.none) (Data.seq (List.toArray [(Value.ref 135), (Value.ref 136)]) 0) (List.toArray [])))
def o_174 : Params → Obj := (fun P => (Obj.mk (Value.type "tuple") (Option.none) (Data.seq (List.toArray [(Value.str (Str.ofString "elt") 512), (Value.str (Str.ofString "EXPR") 513), (Value.str (Str.ofString "") 514)]) 0) (List.toArray [])))
def o_175 : Params → Obj := (fun P => (Obj.mk (Value.type "tuple") (Option.none) (Data.seq (List.toArray [(Value.str (Str.ofString "generators") 515), (Value.str (Str.ofString "comprehension") 516), (Value.str (Str.ofString "+") 517)]) 0) (List.toArray [])))
def o_176 : Params → Obj := (fun P => (Obj.mk (Value.type "tuple") (Option.none) (Data.seq (List.toArray [(Value.ref 138), (Value.ref 139)]) 0) (List.toArray [])))
def o_177 : Params → Obj := (fun P => (Obj.mk (Value.type "tuple") (Option.none) (Data.seq (List.toArray [(Value.str (Str.ofString "elt") 520), (Value.str (Str.ofString "EXPR") 521), (Value.str (Str.ofString "") 522)]) 0) (List.toArray [])))
def o_178 : Params → Obj := (fun P => (Obj.mk (Value.type "tuple") (Option.none) (Data.seq (List.toArray [(Value.str (Str.ofString "generators") 523), (Value.str (Str.ofString "comprehension") 524), (Value.str (Str.ofString "+") 525)]) 0) (List.toArray [])))
def o_179 : Params → Obj := (fun P => (Obj.mk (Value.type "tuple") (Option.none) (Data.seq (List.toArray [(Value.ref 141), (Value.ref 142)]) 0) (List.toArray [])))
def o_180 : Params → Obj := (fun P => (Obj.mk (Value.type "tuple") (Option.none) (Data.seq (List.toArray [(Value.str (Str.ofString "key") 528), (Value.str (Str.ofString "EXPR") 529), (Value.str (Str.ofString "") 530)]) 0) (List.toArray [])))
def o_181 : Params → Obj := (fun P => (Obj.mk (Value.type "tuple") (Option.none) (Data.seq (List.toArray [(Value.str (Str.ofString "value") 531), (Value.str (Str.ofString "EXPR") 532), (Value.str (Str.ofString "") 533)]) 0) (List.toArray [])))
def o_182 : Params → Obj := (fun P => (Obj.mk (Value.type "tuple") (Option.none) (Data.seq (List.toArray [(Value.str (Str.ofString "generators") 534), (Value.str (Str.ofString "comprehension") 535), (Value.str (Str.ofString "+") 536)]) 0) (List.toArray [])))
def o_183 : Params → Obj := (fun P => (Obj.mk (Value.type "tuple") (Option.none) (Data.seq (List.toArray [(Value.ref 144), (Value.ref 145), (Value.ref 146)]) 0) (List.toArray [])))
def o_184 : Params → Obj := (fun P => (Obj.mk (Value.type "tuple") (Option.none) (Data.seq (List.toArray [(Value.str (Str.ofString "value") 539), (Value.str (Str.ofString "EXPR") 540), (Value.str (Str.ofString "") 541)]) 0) (List.toArray [])))
def o_185 : Params → Obj := (fun P => (Obj.mk (Value.type "tuple") (Option.none) (Data.seq (List.toArray [(Value.ref 148)]) 0) (List.toArray [])))
def o_186 : Params → Obj := (fun P => (Obj.mk (Value.type "tuple") (Option.none) (Data.seq (List.toArray [(Value.str (Str.ofString "value") 544), (Value.str (Str.ofString "EXPR") 545), (Value.str (Str.ofString "?") 546)]) 0) (List.toArray [])))
def o_187 : Params → Obj := (fun P => (Obj.mk (Value.type "tuple") (Option.none) (Data.seq (List.toArray [(Value.ref 150)]) 0) (List.toArray [])))
def o_188 : Params → Obj := (fun P => (Obj.mk (Value.type "tuple") (Option.none) (Data.seq (List.toArray [(Value.str (Str.ofString "value") 549), (Value.str (Str.ofString "EXPR") 550), (Value.str (Str.ofString "") 551)]) 0) (List.toArray [])))
def o_189 : Params → Obj := (fun P => (Obj.mk (Value.type "tuple") (Option.none) (Data.seq (List.toArray [(Value.ref 152)]) 0) (List.toArray [])))
def o_190 : Params → Obj := (fun P => (Obj.mk (Value.type "tuple") (Option.none) (Data.seq (List.toArray [(Value.str (Str.ofString "left") 554), (Value.str (Str.ofString "EXPR") 555), (Value.str (Str.ofString "") 556)]) 0) (List.toArray [])))
def o_191 : Params → Obj := (fun P => (Obj.mk (Value.type "tuple") (Option.none) (Data.seq (List.toArray [(Value.str (Str.ofString "ops") 557), (Value.str (Str.ofString "COMPARISON") 558), (Value.str (Str.ofString "+") 559)]) 0) (List.toArray [])))
def o_192 : Params → Obj := (fun P => (Obj.mk (Value.type "tuple") (Option.none) (Data.seq (List.toArray [(Value.str (Str.ofString "comparators") 560), (Value.str (Str.ofString "EXPR") 561), (Value.str (Str.ofString "+") 562)]) 0) (List.toArray [])))
def o_193 : Params → Obj := (fun P => (Obj.mk (Value.type "tuple") (Option.none) (Data.seq (List.toArray [(Value.ref 154), (Value.ref 155), (Value.ref 156)]) 0) (List.toArray [])))
def o_194 : Params → Obj := (fun P => (Obj.mk (Value.type "tuple") (Option.none) (Data.seq (List.toArray [(Value.str (Str.ofString "func") 565), (Value.str (Str.ofString "EXPR") 566), (Value.str (Str.ofString "") 567)]) 0) (List.toArray [])))
def o_195 : Params → Obj := (fun P => (Obj.mk (Value.type "tuple") (Option.none) (Data.seq (List.toArray [(Value.str (Str.ofString "args") 568), (Value.str (Str.ofString "EXPR") 569), (Value.str (Str.ofString "*") 570)]) 0) (List.toArray [])))
def o_196 : Params → Obj := (fun P => (Obj.mk (Value.type "tuple") (Option.none) (Data.seq (List.toArray [(Value.str (Str.ofString "keywords") 571), (Value.str (Str.ofString "keyword") 572), (Value.str (Str.ofString "*") 573)]) 0) (List.toArray [])))
def o_197 : Params → Obj := (fun P => (Obj.mk (Value.type "tuple") (Option.none) (Data.seq (List.toArray [(Value.ref 158), (Value.ref 159), (Value.ref 160)]) 0) (List.toArray [])))
def o_198 : Params → Obj := (fun P => (Obj.mk (Value.type "tuple") (Option.none) (Data.seq (List.toArray [(Value.str (Str.ofString "value") 576), (Value.str (Str.ofString "EXPR") 577), (Value.str (Str.ofString "") 578)]) 0) (List.toArray [])))
def o_199 : Params → Obj := (fun P => (Obj.mk (Value.type "tuple") (Option.none) (Data.seq (List.toArray [(Value.str (Str.ofString "conversion") 579), (Value.str (Str.ofString "CONVERSION") 580), (Value.str (Str.ofString "") 581)]) 0) (List.toArray [])))
def o_200 : Params → Obj := (fun P => (Obj.mk (Value.type "tuple") (Option.none) (Data.seq (List.toArray [(Value.str (Str.ofString "format_spec") 582), (Value.str (Str.ofString "JoinedStr") 583), (Value.str (Str.ofString "?") 584)]) 0) (List.toArray [])))
def o_201 : Params → Obj := (fun P => (Obj.mk (Value.type "tuple") (Option.none) (Data.seq (List.toArray [(Value.ref 162), (Value.ref 163), (Value.ref 164)]) 0) (List.toArray [])))
def o_202 : Params → Obj := (fun P => (Obj.mk (Value.type "tuple") (Option.none) (Data.seq (List.toArray [(Value.str (Str.ofString "values") 587), (Value.str (Str.ofString "EXPR") 588), (Value.str (Str.ofString "*") 589)]) 0) (List.toArray [])))
def o_203 : Params → Obj := (fun P => (Obj.mk (Value.type "tuple") (Option.none) (Data.seq (List.toArray [(Value.ref 166)]) 0) (List.toArray [])))
def o_204 : Params → Obj := (fun P => (Obj.mk (Value.type "tuple") (Option.none) (Data.seq (List.toArray [(Value.str (Str.ofString "value") 592), (Value.str (Str.ofString "VALUE") 593), (Value.str (Str.ofString "") 594)]) 0) (List.toArray [])))
def o_205 : Params → Obj := (fun P => (Obj.mk (Value.type "tuple") (Option.none) (Data.seq (List.toArray [(Value.ref 168)]) 0) (List.toArray [])))
def o_206 : Params → Obj := (fun P => (Obj.mk (Value.type "tuple") (Option.none) (Data.seq (List.toArray [(Value.str (Str.ofString "value") 597), (Value.str (Str.ofString "EXPR") 598), (Value.str (Str.ofString "") 599)]) 0) (List.toArray [])))
def o_207 : Params → Obj := (fun P => (Obj.mk (Value.type "tuple") (Option.none) (Data.seq (List.toArray [(Value.str (Str.ofString "attr") 600), (Value.str (Str.ofString "NAME") 601), (Value.str (Str.ofString "") 602)]) 0) (List.toArray [])))
def o_208 : Params → Obj := (fun P => (Obj.mk (Value.type "tuple") (Option.none) (Data.seq (List.toArray [(Value.str (Str.ofString "ctx") 603), (Value.str (Str.ofString "CONTEXT") 604), (Value.str (Str.ofString "") 605)]) 0) (List.toArray [])))
def o_209 : Params → Obj := (fun P => (Obj.mk (Value.type "tuple") (Option.none) (Data.seq (List.toArray [(Value.ref 170), (Value.ref 171), (Value.ref 172)]) 0) (List.toArray [])))
def o_210 : Params → Obj := (fun P => (Obj.mk (Value.type "tuple") (Option.none) (Data.seq (List.toArray [(Value.str (Str.ofString "value") 608), (Value.str (Str.ofString "EXPR") 609), (Value.str (Str.ofString "") 610)]) 0) (List.toArray [])))
def o_211 : Params → Obj := (fun P => (Obj.mk (Value.type "tuple") (Option.none) (Data.seq (List.toArray [(Value.str (Str.ofString "slice") 611), (Value.str (Str.ofString "EXPR") 612), (Value.str (Str.ofString "") 613)]) 0) (List.toArray [])))
def o_212 : Params → Obj := (fun P => (Obj.mk (Value.type "tuple") (Option.none) (Data.seq (List.toArray [(Value.str (Str.ofString "ctx") 614), (Value.str (Str.ofString "CONTEXT") 615), (Value.str (Str.ofString "") 616)]) 0) (List.toArray [])))
def o_213 : Params → Obj := (fun P => (Obj.mk (Value.type "tuple") (Option.none) (Data.seq (List.toArray [(Value.ref 174), (Value.ref 175), (Value.ref 176)]) 0) (List.toArray [])))
def o_214 : Params → Obj := (fun P => (Obj.mk (Value.type "tuple") (Option.none) (Data.seq (List.toArray [(Value.str (Str.ofString "value") 619), (Value.str (Str.ofString "EXPR") 620), (Value.str (Str.ofString "") 621)]) 0) (List.toArray [])))
def o_215 : Params → Obj := (fun P => (Obj.mk (Value.type "tuple") (Option.none) (Data.seq (List.toArray [(Value.str (Str.ofString "ctx") 622), (Value.str (Str.ofString "CONTEXT") 623), (Value.str (Str.ofString "") 624)]) 0) (List.toArray [])))
def o_216 : Params → Obj := (fun P => (Obj.mk (Value.type "tuple") (Option.none) (Data.seq (List.toArray [(Value.ref 178), (Value.ref 179)]) 0) (List.toArray [])))
def o_217 : Params → Obj := (fun P => (Obj.mk (Value.type "dict") (Option.none) (Data.dict (List.toArray [(DictEntry.mk (PyData.keyHash P (Str.ofString "Name")) (Value.str (Str.ofString "Name") 626) (Value.ref 184)), (DictEntry.mk (PyData.keyHash P (Str.ofString "List")) (Value.str (Str.ofString "List") 634) (Value.ref 187)), (DictEntry.mk (PyData.keyHash P (Str.ofString "Tuple")) (Value.str (Str.ofString "Tuple") 642) (Value.ref 190)), (DictEntry.mk (PyData.keyHash P (Str.ofString "Slice")) (Value.str (Str.ofString "Slice") 650) (Value.ref 194)), (DictEntry.mk (PyData.keyHash P (Str.ofString "comprehension")) (Value.str (Str.ofString "comprehension") 661) (Value.ref 199)), (DictEntry.mk (PyData.keyHash P (Str.ofString "ExceptHandler")) (Value.str (Str.ofString "ExceptHandler") 675) (Value.ref 203)), (DictEntry.mk (PyData.keyHash P (Str.ofString "arguments")) (Value.str (Str.ofString "arguments") 686) (Value.ref 211)), (DictEntry.mk (PyData.keyHash P (Str.ofString "arg")) (Value.str (Str.ofString "arg") 709) (Value.ref 214)), (DictEntry.mk (PyData.keyHash P (Str.ofString "keyword")) (Value.str (Str.ofString "keyword") 717) (Value.ref 217)), (DictEntry.mk (PyData.keyHash P (Str.ofString "alias")) (Value.str (Str.ofString "alias") 725) (Value.ref 220)), (DictEntry.mk (PyData.keyHash P (Str.ofString "withitem")) (Value.str (Str.ofString "withitem") 733) (Value.ref 223)), (DictEntry.mk (PyData.keyHash P (Str.ofString "match_case")) (Value.str (Str.ofString "match_case") 741) (Value.ref 227)), (DictEntry.mk (PyData.keyHash P (Str.ofString "MatchValue")) (Value.str (Str.ofString "MatchValue") 752) (Value.ref 229)), (DictEntry.mk (PyData.keyHash P (Str.ofString "MatchSingleton")) (Value.str (Str.ofString "MatchSingleton") 757) (Value.ref 231)), (DictEntry.mk (PyData.keyHash P (Str.ofString "MatchSequence")) (Value.str (Str.ofString "MatchSequence") 762) (Value.ref 233)), (DictEntry.mk (PyData.keyHash P (Str.ofString "MatchOr")) (Value.str (Str.ofString "MatchOr") 767) (Value.ref 235)), (DictEntry.mk (PyData.keyHash P (Str.ofString "MatchMapping")) (Value.str (Str.ofString "MatchMapping") 772) (Value.ref 239))]) 17) (List.toArray [])))
def o_218 : Params → Obj := (fun P => (Obj.mk (Value.type "tuple") (Option.none) (Data.seq (List.toArray [(Value.str (Str.ofString "id") 627), (Value.str (Str.ofString "NAME") 628), (Value.str (Str.ofString "") 629)]) 0) (List.toArray [])))
def o_219 : Params → Obj := (fun P => (Obj.mk (Value.type "tuple") (Option.none) (Data.seq (List.toArray [(Value.str (Str.ofString "ctx") 630), (Value.str (Str.ofString "CONTEXT") 631), (Value.str (Str.ofString "") 632)]) 0) (List.toArray [])))
def o_220 : Params → Obj := (fun P => (Obj.mk (Value.type "tuple") (Option.none) (Data.seq (List.toArray [(Value.ref 182), (Value.ref 183)]) 0) (List.toArray [])))
def o_221 : Params → Obj := (fun P => (Obj.mk (Value.type "tuple") (Option.none) (Data.seq (List.toArray [(Value.str (Str.ofString "elts") 635), (Value.str (Str.ofString "EXPR") 636), (Value.str (Str.ofString "*") 637)]) 0) (List.toArray [])))
def o_222 : Params → Obj := (fun P => (Obj.mk (Value.type "tuple") (Option.none) (Data.seq (List.toArray [(Value.str (Str.ofString "ctx") 638), (Value.str (Str.ofString "CONTEXT") 639), (Value.str (Str.ofString "") 640)]) 0) (List.toArray [])))
def o_223 : Params → Obj := (fun P => (Obj.mk (Value.type "tuple") (Option.none) (Data.seq (List.toArray [(Value.ref 185), (Value.ref 186)]) 0) (List.toArray [])))
def o_224 : Params → Obj := (fun P => (Obj.mk (Value.type "tuple") (Option.none) (Data.seq (List.toArray [(Value.str (Str.ofString "elts") 643), (Value.str (Str.ofString "EXPR") 644), (Value.str (Str.ofString "*") 645)]) 0) (List.toArray [])))
def o_225 : Params → Obj := (fun P => (Obj.mk (Value.type "tuple") (Option.none) (Data.seq (List.toArray [(Value.str (Str.ofString "ctx") 646), (Value.str (Str.ofString "CONTEXT") 647), (Value.str (Str.ofString "") 648)]) 0) (List.toArray [])))
def o_226 : Params → Obj := (fun P => (Obj.mk (Value.type "tuple") (Option.none) (Data.seq (List.toArray [(Value.ref 188), (Value.ref 189)]) 0) (List.toArray [])))
def o_227 : Params → Obj := (fun P => (Obj.mk (Value.type "tuple") (Option.none) (Data.seq (List.toArray [(Value.str (Str.ofString "lower") 651), (Value.str (Str.ofString "EXPR") 652), (Value.str (Str.ofString "?") 653)]) 0) (List.toArray [])))
def o_228 : Params → Obj := (fun P => (Obj.mk (Value.type "tuple") (Option.none) (Data.seq (List.toArray [(Value.str (Str.ofString "upper") 654), (Value.str (Str.ofString "EXPR") 655), (Value.str (Str.ofString "?") 656)]) 0) (List.toArray [])))
def o_229 : Params → Obj := (fun P => (Obj.mk (Value.type "tuple") (Option.none) (Data.seq (List.toArray [(Value.str (Str.ofString "step") 657), (Value.str (Str.ofString "EXPR") 658), (Value.str (Str.ofString "?") 659)]) 0) (List.toArray [])))
def o_230 : Params → Obj := (fun P => (Obj.mk (Value.type "tuple") (Option.none) (Data.seq (List.toArray [(Value.ref 191), (Value.ref 192), (Value.ref 193)]) 0) (List.toArray [])))
def o_231 : Params → Obj := (fun P => (Obj.mk (Value.type "tuple") (Option.none) (Data.seq (List.toArray [(Value.str (Str.ofString "target") 662), (Value.str (Str.ofString "EXPR") 663), (Value.str (Str.ofString "") 664)]) 0) (List.toArray [])))
def o_232 : Params → Obj := (fun P => (Obj.mk (Value.type "tuple") (Option.none) (Data.seq (List.toArray [(Value.str (Str.ofString "iter") 665), (Value.str (Str.ofString "EXPR") 666), (Value.str (Str.ofString "") 667)]) 0) (List.toArray [])))
def o_233 : Params → Obj := (fun P => (Obj.mk (Value.type "tuple") (Option.none) (Data.seq (List.toArray [(Value.str (Str.ofString "ifs") 668), (Value.str (Str.ofString "EXPR") 669), (Value.str (Str.ofString "*") 670)]) 0) (List.toArray [])))
def o_234 : Params → Obj := (fun P => (Obj.mk (Value.type "tuple") (Option.none) (Data.seq (List.toArray [(Value.str (Str.ofString "is_async") 671), (Value.str (Str.ofString "BIT") 672), (Value.str (Str.ofString "") 673)]) 0) (List.toArray [])))
def o_235 : Params → Obj := (fun P => (Obj.mk (Value.type "tuple") (Option.none) (Data.seq (List.toArray [(Value.ref 195), (Value.ref 196), (Value.ref 197), (Value.ref 198)]) 0) (List.toArray [])))
def o_236 : Params → Obj := (fun P => (Obj.mk (Value.type "tuple") (Option.none) (Data.seq (List.toArray [(Value.str (Str.ofString "exc") 676), (Value.str (Str.ofString "EXPR") 677), (Value.str (Str.ofString "?") 678)]) 0) (List.toArray [])))
def o_237 : Params → Obj := (fun P => (Obj.mk (Value.type "tuple") (Option.none) (Data.seq (List.toArray [(Value.str (Str.ofString "name") 679), (Value.str (Str.ofString "NAME") 680), (Value.str (Str.ofString "?") 681)]) 0) (List.toArray [])))
def o_238 : Params → Obj := (fun P => (Obj.mk (Value.type "tuple") (Option.none) (Data.seq (List.toArray [(Value.str (Str.ofString "body") 682), (Value.str (Str.ofString "STMT") 683), (Value.str (Str.ofString "+") 684)]) 0) (List.toArray [])))
def o_239 : Params → Obj := (fun P => (Obj.mk (Value.type "tuple") (Option.none) (Data.seq (List.toArray [(Value.ref 200), (Value.ref 201), (Value.ref 202)]) 0) (List.toArray [])))
def o_240 : Params → Obj := (fun P => (Obj.mk (Value.type "tuple") (Option.none) (Data.seq (List.toArray [(Value.str (Str.ofString "posonlyargs") 687), (Value.str (Str.ofString "arg") 688), (Value.str (Str.ofString "*") 689)]) 0) (List.toArray [])))
def o_241 : Params → Obj := (fun P => (Obj.mk (Value.type "tuple") (Option.none) (Data.seq (List.toArray [(Value.str (Str.ofString "args") 690), (Value.str (Str.ofString "arg") 691), (Value.str (Str.ofString "*") 692)]) 0) (List.toArray [])))
def o_242 : Params → Obj := (fun P => (Obj.mk (Value.type "tuple") (Option.none) (Data.seq (List.toArray [(Value.str (Str.ofString "vararg") 693), (Value.str (Str.ofString "arg") 694), (Value.str (Str.ofString "?") 695)]) 0) (List.toArray [])))
def o_243 : Params → Obj := (fun P => (Obj.mk (Value.type "tuple") (Option.none) (Data.seq (List.toArray [(Value.str (Str.ofString "kwonlyargs") 696), (Value.str (Str.ofString "arg") 697), (Value.str (Str.ofString "*") 698)]) 0) (List.toArray [])))
def o_244 : Params → Obj := (fun P => (Obj.mk (Value.type "tuple") (Option.none) (Data.seq (List.toArray [(Value.str (Str.ofString "kw_defaults") 699), (Value.str (Str.ofString "EXPR") 700), (Value.str (Str.ofString "?*") 701)]) 0) (List.toArray [])))
def o_245 : Params → Obj := (fun P => (Obj.mk (Value.type "tuple") (Option.none) (Data.seq (List.toArray [(Value.str (Str.ofString "kwarg") 702), (Value.str (Str.ofString "arg") 703), (Value.str (Str.ofString "?") 704)]) 0) (List.toArray [])))
def o_246 : Params → Obj := (fun P => (Obj.mk (Value.type "tuple") (Option.none) (Data.seq (List.toArray [(Value.str (Str.ofString "defaults") 705), (Value.str (Str.ofString "EXPR") 706), (Value.str (Str.ofString "*") 707)]) 0) (List.toArray [])))
def o_247 : Params → Obj := (fun P => (Obj.mk (Value.type "tuple") (Option.none) (Data.seq (List.toArray [(Value.ref 204), (Value.ref 205), (Value.ref 206), (Value.ref 207), (Value.ref 208), (Value.ref 209), (Value.ref 210)]) 0) (List.toArray [])))
def o_248 : Params → Obj := (fun P => (Obj.mk (Value.type "tuple") (Option.none) (Data.seq (List.toArray [(Value.str (Str.ofString "arg") 710), (Value.str (Str.ofString "NAME") 711), (Value.str (Str.ofString "") 712)]) 0) (List.toArray [])))
def o_249 : Params → Obj := (fun P => (Obj.mk (Value.type "tuple") (Option.none) (Data.seq (List.toArray [(Value.str (Str.ofString "annotation") 713), (Value.str (Str.ofString "EXPR") 714), (Value.str (Str.ofString "?") 715)]) 0) (List.toArray [])))
def o_250 : Params → Obj := (fun P => (Obj.mk (Value.type "tuple") (Option.none) (Data.seq (List.toArray [(Value.ref 212), (Value.ref 213)]) 0) (List.toArray [])))
def o_251 : Params → Obj := (fun P => (Obj.mk (Value.type "tuple") (Option.none) (Data.seq (List.toArray [(Value.str (Str.ofString "arg") 718), (Value.str (Str.ofString "NAME") 719), (Value.str (Str.ofString "?") 720)]) 0) (List.toArray [])))
def o_252 : Params → Obj := (fun P => (Obj.mk (Value.type "tuple") (Option.none) (Data.seq (List.toArray [(Value.str (Str.ofString "value") 721), (Value.str (Str.ofString "EXPR") 722), (Value.str (Str.ofString "") 723)]) 0) (List.toArray [])))
def o_253 : Params → Obj := (fun P => (Obj.mk (Value.type "tuple") (Option.none) (Data.seq (List.toArray [(Value.ref 215), (Value.ref 216)]) 0) (List.toArray [])))
def o_254 : Params → Obj := (fun P => (Obj.mk (Value.type "tuple") (Option.none) (Data.seq (List.toArray [(Value.str (Str.ofString "name") 726), (Value.str (Str.ofString "DOTTED_OR_STAR") 727), (Value.str (Str.ofString "") 728)]) 0) (List.toArray [])))
def o_255 : Params → Obj := (fun P => (Obj.mk (Value.type "tuple") (Option.none) (Data.seq (List.toArray [(Value.str (Str.ofString "asname") 729), (Value.str (Str.ofString "NAME") 730), (Value.str (Str.ofString "?") 731)]) 0) (List.toArray [])))
def o_256 : Params → Obj := (fun P => (Obj.mk (Value.type "tuple") (Option.none) (Data.seq (List.toArray [(Value.ref 218), (Value.ref 219)]) 0) (List.toArray [])))
def o_257 : Params → Obj := (fun P => (Obj.mk (Value.type "tuple") (Option.none) (Data.seq (List.toArray [(Value.str (Str.ofString "context_expr") 734), (Value.str (Str.ofString "EXPR") 735), (Value.str (Str.ofString "") 736)]) 0) (List.toArray [])))
def o_258 : Params → Obj := (fun P => (Obj.mk (Value.type "tuple") (Option.none) (Data.seq (List.toArray [(Value.str (Str.ofString "optional_vars") 737), (Value.str (Str.ofString "EXPR") 738), (Value.str (Str.ofString "?") 739)]) 0) (List.toArray [])))
def o_259 : Params → Obj := (fun P => (Obj.mk (Value.type "tuple") (Option.none) (Data.seq (List.toArray [(Value.ref 221), (Value.ref 222)]) 0) (List.toArray [])))
def o_260 : Params → Obj := (fun P => (Obj.mk (Value.type "tuple") (Option.none) (Data.seq (List.toArray [(Value.str (Str.ofString "pattern") 742), (Value.str (Str.ofString "PATTERN") 743), (Value.str (Str.ofString "") 744)]) 0) (List.toArray [])))
def o_261 : Params → Obj := (fun P => (Obj.mk (Value.type "tuple") (Option.none) (Data.seq (List.toArray [(Value.str (Str.ofString "guard") 745), (Value.str (Str.ofString "EXPR") 746), (Value.str (Str.ofString "?") 747)]) 0) (List.toArray [])))
def o_262 : Params → Obj := (fun P => (Obj.mk (Value.type "tuple") (Option.none) (Data.seq (List.toArray [(Value.str (Str.ofString "body") 748), (Value.str (Str.ofString "STMT") 749), (Value.str (Str.ofString "+") 750)]) 0) (List.toArray [])))
def o_263 : Params → Obj := (fun P => (Obj.mk (Value.type "tuple") (Option.none) (Data.seq (List.toArray [(Value.ref 224), (Value.ref 225), (Value.ref 226)]) 0) (List.toArray [])))
def o_264 : Params → Obj := (fun P => (Obj.mk (Value.type "tuple") (Option.none) (Data.seq (List.toArray [(Value.str (Str.ofString "value") 753), (Value.str (Str.ofString "EXPR") 754), (Value.str (Str.ofString "") 755)]) 0) (List.toArray [])))
def o_265 : Params → Obj := (fun P => (Obj.mk (Value.type "tuple") (Option.none) (Data.seq (List.toArray [(Value.ref 228)]) 0) (List.toArray [])))
def o_266 : Params → Obj := (fun P => (Obj.mk (Value.type "tuple") (Option.none) (Data.seq (List.toArray [(Value.str (Str.ofString "value") 758), (Value.str (Str.ofString "SINGLETON") 759), (Value.str (Str.ofString "") 760)]) 0) (List.toArray [])))
def o_267 : Params → Obj := (fun P => (Obj.mk (Value.type "tuple") (Option.none) (Data.seq (List.toArray [(Value.ref 230)]) 0) (List.toArray [])))
def o_268 : Params → Obj := (fun P => (Obj.mk (Value.type "tuple") (Option.none) (Data.seq (List.toArray [(Value.str (Str.ofString "patterns") 763), (Value.str (Str.ofString "PATTERN") 764), (Value.str (Str.ofString "*") 765)]) 0) (List.toArray [])))
def o_269 : Params → Obj := (fun P => (Obj.mk (Value.type "tuple") (Option.none) (Data.seq (List.toArray [(Value.ref 232)]) 0) (List.toArray [])))
def o_270 : Params → Obj := (fun P => (Obj.mk (Value.type "tuple") (Option.none) (Data.seq (List.toArray [(Value.str (Str.ofString "patterns") 768), (Value.str (Str.ofString "PATTERN") 769), (Value.str (Str.ofString "+") 770)]) 0) (List.toArray [])))
def o_271 : Params → Obj := (fun P => (Obj.mk (Value.type "tuple") (Option.none) (Data.seq (List.toArray [(Value.ref 234)]) 0) (List.toArray [])))
def o_272 : Params → Obj := (fun P => (Obj.mk (Value.type "tuple") (Option.none) (Data.seq (List.toArray [(Value.str (Str.ofString "keys") 773), (Value.str (Str.ofString "EXPR") 774), (Value.str (Str.ofString "*") 775)]) 0) (List.toArray [])))
def o_273 : Params → Obj := (fun P => (Obj.mk (Value.type "tuple") (Option.none) (Data.seq (List.toArray [(Value.str (Str.ofString "patterns") 776), (Value.str (Str.ofString "PATTERN") 777), (Value.str (Str.ofString "*") 778)]) 0) (List.toArray [])))
def o_274 : Params → Obj := (fun P => (Obj.mk (Value.type "tuple") (Option.none) (Data.seq (List.toArray [(Value.str (Str.ofString "rest") 779), (Value.str (Str.ofString "NAME") 780), (Value.str (Str.ofString "?") 781)]) 0) (List.toArray [])))
def o_275 : Params → Obj := (fun P => (Obj.mk (Value.type "tuple") (Option.none) (Data.seq (List.toArray [(Value.ref 236), (Value.ref 237), (Value.ref 238)]) 0) (List.toArray [])))
def o_276 : Params → Obj := (fun P => (Obj.mk (Value.type "dict") (Option.none) (Data.dict (List.toArray [(DictEntry.mk (PyData.keyHash P (Str.ofString "MatchClass")) (Value.str (Str.ofString "MatchClass") 783) (Value.ref 245)), (DictEntry.mk (PyData.keyHash P (Str.ofString "MatchStar")) (Value.str (Str.ofString "MatchStar") 797) (Value.ref 247)), (DictEntry.mk (PyData.keyHash P (Str.ofString "MatchAs")) (Value.str (Str.ofString "MatchAs") 802) (Value.ref 250)), (DictEntry.mk (PyData.keyHash P (Str.ofString "And")) (Value.str (Str.ofString "And") 810) (Value.ref 251)), (DictEntry.mk (PyData.keyHash P (Str.ofString "Or")) (Value.str (Str.ofString "Or") 812) (Value.ref 252)), (DictEntry.mk (PyData.keyHash P (Str.ofString "Invert")) (Value.str (Str.ofString "Invert") 814) (Value.ref 253)), (DictEntry.mk (PyData.keyHash P (Str.ofString "Not")) (Value.str (Str.ofString "Not") 816) (Value.ref 254)), (DictEntry.mk (PyData.keyHash P (Str.ofString "UAdd")) (Value.str (Str.ofString "UAdd") 818) (Value.ref 255)), (DictEntry.mk (PyData.keyHash P (Str.ofString "USub")) (Value.str (Str.ofString "USub") 820) (Value.ref 256)), (DictEntry.mk (PyData.keyHash P (Str.ofString "Load")) (Value.str (Str.ofString "Load") 822) (Value.ref 257)), (DictEntry.mk (PyData.keyHash P (Str.ofString "Store")) (Value.str (Str.ofString "Store") 824) (Value.ref 258)), (DictEntry.mk (PyData.keyHash P (Str.ofString "Del")) (Value.str (Str.ofString "Del") 826) (Value.ref 259)), (DictEntry.mk (PyData.keyHash P (Str.ofString "Add")) (Value.str (Str.ofString "Add") 828) (Value.ref 260)), (DictEntry.mk (PyData.keyHash P (Str.ofString "Sub")) (Value.str (Str.ofString "Sub") 830) (Value.ref 261)), (DictEntry.mk (PyData.keyHash P (Str.ofString "Mult")) (Value.str (Str.ofString "Mult") 832) (Value.ref 262)), (DictEntry.mk (PyData.keyHash P (Str.ofString "MatMult")) (Value.str (Str.ofString "MatMult") 834) (Value.ref 263)), (DictEntry.mk (PyData.keyHash P (Str.ofString "Div")) (Value.str (Str.ofString "Div") 836) (Value.ref 264))]) 17) (List.toArray [])))
def o_277 : Params → Obj := (fun P => (Obj.mk (Value.type "tuple") (Option.none) (Data.seq (List.toArray [(Value.str (Str.ofString "cls") 784), (Value.str (Str.ofString "EXPR") 785), (Value.str (Str.ofString "") 786)]) 0) (List.toArray [])))
def o_278 : Params → Obj := (fun P => (Obj.mk (Value.type "tuple") (Option.none) (Data.seq (List.toArray [(Value.str (Str.ofString "patterns") 787), (Value.str (Str.ofString "PATTERN") 788), (Value.str (Str.ofString "*") 789)]) 0) (List.toArray [])))
def o_279 : Params → Obj := (fun P => (Obj.mk (Value.type "tuple") (Option.none) (Data.seq (List.toArray [(Value.str (Str.ofString "kwd_attrs") 790), (Value.str (Str.ofString "NAME") 791), (Value.str (Str.ofString "*") 792)]) 0) (List.toArray [])))
def o_280 : Params → Obj := (fun P => (Obj.mk (Value.type "tuple") (Option.none) (Data.seq (List.toArray [(Value.str (Str.ofString "kwd_patterns") 793), (Value.str (Str.ofString "PATTERN") 794), (Value.str (Str.ofString "*") 795)]) 0) (List.toArray [])))
def o_281 : Params → Obj := (fun P => (Obj.mk (Value.type "tuple") (Option.none) (Data.seq (List.toArray [(Value.ref 241), (Value.ref 242), (Value.ref 243), (Value.ref 244)]) 0) (List.toArray [])))
def o_282 : Params → Obj := (fun P => (Obj.mk (Value.type "tuple") (Option.none) (Data.seq (List.toArray [(Value.str (Str.ofString "name") 798), (Value.str (Str.ofString "NAME") 799), (Value.str (Str.ofString "?") 800)]) 0) (List.toArray [])))
def o_283 : Params → Obj := (fun P => (Obj.mk (Value.type "tuple") (Option.none) (Data.seq (List.toArray [(Value.ref 246)]) 0) (List.toArray [])))
def o_284 : Params → Obj := (fun P => (Obj.mk (Value.type "tuple") (Option.none) (Data.seq (List.toArray [(Value.str (Str.ofString "pattern") 803), (Value.str (Str.ofString "PATTERN") 804), (Value.str (Str.ofString "?") 805)]) 0) (List.toArray [])))
def o_285 : Params → Obj := (fun P => (Obj.mk (Value.type "tuple") (Option.none) (Data.seq (List.toArray [(Value.str (Str.ofString "name") 806), (Value.str (Str.ofString "NAME") 807), (Value.str (Str.ofString "?") 808)]) 0) (List.toArray [])))
def o_286 : Params → Obj := (fun P => (Obj.mk (Value.type "tuple") (Option.none) (Data.seq (List.toArray [(Value.ref 248), (Value.ref 249)]) 0) (List.toArray [])))
def o_287 : Params → Obj := (fun P => (Obj.mk (Value.type "tuple") (Option.none) (Data.seq (List.toArray []) 0) (List.toArray [])))
def o_288 : Params → Obj := (fun P => (Obj.mk (Value.type "tuple") (Option.none) (Data.seq (List.toArray []) 0) (List.toArray [])))
def o_289 : Params → Obj := (fun P => (Obj.mk (Value.type "tuple") (Option.none) (Data.seq (List.toArray []) 0) (List.toArray [])))
def o_290 : Params → Obj := (fun P => (Obj.mk (Value.type "tuple") (Option.none) (Data.seq (List.toArray []) 0) (List.toArray [])))
def o_291 : Params → Obj := (fun P => (Obj.mk (Value.type "tuple") (Option.none) (Data.seq (List.toArray []) 0) (List.toArray [])))
def o_292 : Params → Obj := (fun P => (Obj.mk (Value.type "tuple") (Option.none) (Data.seq (List.toArray []) 0) (List.toArray [])))
def o_293 : Params → Obj := (fun P => (Obj.mk (Value.type "tuple") (Option.none) (Data.seq (List.toArray []) 0) (List.toArray [])))
def o_294 : Params → Obj := (fun P => (Obj.mk (Value.type "tuple") (Option.none) (Data.seq (List.toArray []) 0) (List.toArray [])))
def o_295 : Params → Obj := (fun P => (Obj.mk (Value.type "tuple") (Option.none) (Data.seq (List.toArray []) 0) (List.toArray [])))
def o_296 : Params → Obj := (fun P => (Obj.mk (Value.type "tuple") (Option.none) (Data.seq (List.toArray []) 0) (List.toArray [])))
def o_297 : Params → Obj := (fun P => (Obj.mk (Value.type "tuple") (Option.none) (Data.seq (List.toArray []) 0) (List.toArray [])))
def o_298 : Params → Obj := (fun P => (Obj.mk (Value.type "tuple") (Option.none) (Data.seq (List.toArray []) 0) (List.toArray [])))
def o_299 : Params → Obj := (fun P => (Obj.mk (Value.type "tuple") (Option.none) (Data.seq (List.toArray []) 0) (List.toArray [])))
def o_300 : Params → Obj := (fun P => (Obj.mk (Value.type "tuple") (Option.none) (Data.seq (List.toArray []) 0) (List.toArray [])))
def o_301 : Params → Obj := (fun P => (Obj.mk (Value.type "dict") (Option.none) (Data.dict (List.toArray [(DictEntry.mk (PyData.keyHash P (Str.ofString "FloorDiv")) (Value.str (Str.ofString "FloorDiv") 838) (Value.ref 266)), (DictEntry.mk (PyData.keyHash P (Str.ofString "Pow")) (Value.str (Str.ofString "Pow") 840) (Value.ref 267)), (DictEntry.mk (PyData.keyHash P (Str.ofString "LShift")) (Value.str (Str.ofString "LShift") 842) (Value.ref 268)), (DictEntry.mk (PyData.keyHash P (Str.ofString "RShift")) (Value.str (Str.ofString "RShift") 844) (Value.ref 269)), (DictEntry.mk (PyData.keyHash P (Str.ofString "BitOr")) (Value.str (Str.ofString "BitOr") 846) (Value.ref 270)), (DictEntry.mk (PyData.keyHash P (Str.ofString "BitXor")) (Value.str (Str.ofString "BitXor") 848) (Value.ref 271)), (DictEntry.mk (PyData.keyHash P (Str.ofString "BitAnd")) (Value.str (Str.ofString "BitAnd") 850) (Value.ref 272)), (DictEntry.mk (PyData.keyHash P (Str.ofString "Eq")) (Value.str (Str.ofString "Eq") 852) (Value.ref 273)), (DictEntry.mk (PyData.keyHash P (Str.ofString "NotEq")) (Value.str (Str.ofString "NotEq") 854) (Value.ref 274)), (DictEntry.mk (PyData.keyHash P (Str.ofString "Lt")) (Value.str (Str.ofString "Lt") 856) (Value.ref 275)), (DictEntry.mk (PyData.keyHash P (Str.ofString "LtE")) (Value.str (Str.ofString "LtE") 858) (Value.ref 276)), (DictEntry.mk (PyData.keyHash P (Str.ofString "Gt")) (Value.str (Str.ofString "Gt") 860) (Value.ref 277)), (DictEntry.mk (PyData.keyHash P (Str.ofString "GtE")) (Value.str (Str.ofString "GtE") 862) (Value.ref 278)), (DictEntry.mk (PyData.keyHash P (Str.ofString "Is")) (Value.str (Str.ofString "Is") 864) (Value.ref 279)), (DictEntry.mk (PyData.keyHash P (Str.ofString "IsNot")) (Value.str (Str.ofString "IsNot") 866) (Value.ref 280)), (DictEntry.mk (PyData.keyHash P (Str.ofString "In")) (Value.str (Str.ofString "In") 868) (Value.ref 281)), (DictEntry.mk (PyData.keyHash P (Str.ofString "NotIn")) (Value.str (Str.ofString "NotIn") 870) (Value.ref 282))]) 17) (List.toArray [])))
def o_302 : Params → Obj := (fun P => (Obj.mk (Value.type "tuple") (Option.none) (Data.seq (List.toArray []) 0) (List.toArray [])))
def o_303 : Params → Obj := (fun P => (Obj.mk (Value.type "tuple") (Option.none) (Data.seq (List.toArray []) 0) (List.toArray [])))
def o_304 : Params → Obj := (fun P => (Obj.mk (Value.type "tuple") (Option.none) (Data.seq (List.toArray []) 0) (List.toArray [])))
def o_305 : Params → Obj := (fun P => (Obj.mk (Value.type "tuple") (Option.none) (Data.seq (List.toArray []) 0) (List.toArray [])))
def o_306 : Params → Obj := (fun P => (Obj.mk (Value.type "tuple") (Option.none) (Data.seq (List.toArray []) 0) (List.toArray [])))
def o_307 : Params → Obj := (fun P => (Obj.mk (Value.type "tuple") (Option.none) (Data.seq (List.toArray []) 0) (List.toArray [])))
def o_308 : Params → Obj := (fun P => (Obj.mk (Value.type "tuple") (Option.none) (Data.seq (List.toArray []) 0) (List.toArray [])))
def o_309 : Params → Obj := (fun P => (Obj.mk (Value.type "tuple") (Option.none) (Data.seq (List.toArray []) 0) (List.toArray [])))
def o_310 : Params → Obj := (fun P => (Obj.mk (Value.type "tuple") (Option.none) (Data.seq (List.toArray []) 0) (List.toArray [])))
def o_311 : Params → Obj := (fun P => (Obj.mk (Value.type "tuple") (Option.none) (Data.seq (List.toArray []) 0) (List.toArray [])))
def o_312 : Params → Obj := (fun P => (Obj.mk (Value.type "tuple") (Option.none) (Data.seq (List.toArray []) 0) (List.toArray [])))
def o_313 : Params → Obj := (fun P => (Obj.mk (Value.type "tuple") (Option.none) (Data.seq (List.toArray []) 0) (List.toArray [])))
def o_314 : Params → Obj := (fun P => (Obj.mk (Value.type "tuple") (Option.none) (Data.seq (List.toArray []) 0) (List.toArray [])))
def o_315 : Params → Obj := (fun P => (Obj.mk (Value.type "tuple") (Option.none) (Data.seq (List.toArray []) 0) (List.toArray [])))
def o_316 : Params → Obj := (fun P => (Obj.mk (Value.type "tuple") (Option.none) (Data.seq (List.toArray []) 0) (List.toArray [])))
def o_317 : Params → Obj := (fun P => (Obj.mk (Value.type "tuple") (Option.none) (Data.seq (List.toArray []) 0) (List.toArray [])))
def o_318 : Params → Obj := (fun P => (Obj.mk (Value.type "tuple") (Option.none) (Data.seq (List.toArray []) 0) (List.toArray [])))
def heap_46 : Params → Heap := (fun P => (Heap.mk (Array.mk [(boot_o_0 P), (boot_o_1 P), (boot_o_2 P), (boot_o_3 P), (boot_o_4 P), (boot_o_5 P), (boot_o_6 P), (boot_o_7 P), (boot_o_8 P), (boot_o_9 P), (boot_o_10 P), (o_43 P), (o_44 P), (o_45 P), (o_46 P)]) (Life.mk [] [] [] 0 [] [] Bool.false (List.toArray []) [] 0 Bool.false Bool.false Bool.false 0 [2000, 10, 10] Bool.false 0 Bool.true [] [] 0 Bool.false)))
def tree_47 : Params → BT := (fun P => (BT.node (boot_o_0 P) (BT.node (boot_o_1 P) (BT.node (boot_o_3 P) (BT.node (boot_o_7 P) BT.nil BT.nil) (BT.node (o_43 P) BT.nil BT.nil)) (BT.node (boot_o_5 P) (BT.node (boot_o_9 P) BT.nil BT.nil) (BT.node (o_45 P) BT.nil BT.nil))) (BT.node (boot_o_2 P) (BT.node (boot_o_4 P) (BT.node (boot_o_8 P) BT.nil BT.nil) (BT.node (o_44 P) BT.nil BT.nil)) (BT.node (boot_o_6 P) (BT.node (boot_o_10 P) BT.nil BT.nil) (BT.node (o_46 P) BT.nil BT.nil)))))
def tree_318 : Params → BT := (fun P => (BT.node (boot_o_0 P) (BT.node (boot_o_1 P) (BT.node (o_51 P) (BT.node (boot_o_7 P) (BT.node (o_50 P) (BT.node (o_67 P) (BT.node (o_99 P) (BT.node (o_163 P) (BT.node (o_291 P) BT.nil BT.nil) BT.nil) (BT.node (o_227 P) BT.nil BT.nil)) (BT.node (o_131 P) (BT.node (o_195 P) BT.nil BT.nil) (BT.node (o_259 P) BT.nil BT.nil))) (BT.node (o_83 P) (BT.node (o_115 P) (BT.node (o_179 P) (BT.node (o_307 P) BT.nil BT.nil) BT.nil) (BT.node (o_243 P) BT.nil BT.nil)) (BT.node (o_147 P) (BT.node (o_211 P) BT.nil BT.nil) (BT.node (o_275 P) BT.nil BT.nil)))) (BT.node (o_59 P) (BT.node (o_75 P) (BT.node (o_107 P) (BT.node (o_171 P) (BT.node (o_299 P) BT.nil BT.nil) BT.nil) (BT.node (o_235 P) BT.nil BT.nil)) (BT.node (o_139 P) (BT.node (o_203 P) BT.nil BT.nil) (BT.node (o_267 P) BT.nil BT.nil))) (BT.node (o_91 P) (BT.node (o_123 P) (BT.node (o_187 P) (BT.node (o_315 P) BT.nil BT.nil) BT.nil) (BT.node (o_251 P) BT.nil BT.nil)) (BT.node (o_155 P) (BT.node (o_219 P) BT.nil BT.nil) (BT.node (o_283 P) BT.nil BT.nil))))) (BT.node (o_43 P) (BT.node (o_55 P) (BT.node (o_71 P) (BT.node (o_103 P) (BT.node (o_167 P) (BT.node (o_295 P) BT.nil BT.nil) BT.nil) (BT.node (o_231 P) BT.nil BT.nil)) (BT.node (o_135 P) (BT.node (o_199 P) BT.nil BT.nil) (BT.node (o_263 P) BT.nil BT.nil))) (BT.node (o_87 P) (BT.node (o_119 P) (BT.node (o_183 P) (BT.node (o_311 P) BT.nil BT.nil) BT.nil) (BT.node (o_247 P) BT.nil BT.nil)) (BT.node (o_151 P) (BT.node (o_215 P) BT.nil BT.nil) (BT.node (o_279 P) BT.nil BT.nil)))) (BT.node (o_63 P) (BT.node (o_79 P) (BT.node (o_111 P) (BT.node (o_175 P) (BT.node (o_303 P) BT.nil BT.nil) BT.nil) (BT.node (o_239 P) BT.nil BT.nil)) (BT.node (o_143 P) (BT.node (o_207 P) BT.nil BT.nil) (BT.node (o_271 P) BT.nil BT.nil))) (BT.node (o_95 P) (BT.node (o_127 P) (BT.node (o_191 P) BT.nil BT.nil) (BT.node (o_255 P) BT.nil BT.nil)) (BT.node (o_159 P) (BT.node (o_223 P) BT.nil BT.nil) (BT.node (o_287 P) BT.nil BT.nil)))))) (BT.node (boot_o_5 P) (BT.node (boot_o_9 P) (BT.node (o_53 P) (BT.node (o_69 P) (BT.node (o_101 P) (BT.node (o_165 P) (BT.node (o_293 P) BT.nil BT.nil) BT.nil) (BT.node (o_229 P) BT.nil BT.nil)) (BT.node (o_133 P) (BT.node (o_197 P) BT.nil BT.nil) (BT.node (o_261 P) BT.nil BT.nil))) (BT.node (o_85 P) (BT.node (o_117 P) (BT.node (o_181 P) (BT.node (o_309 P) BT.nil BT.nil) BT.nil) (BT.node (o_245 P) BT.nil BT.nil)) (BT.node (o_149 P) (BT.node (o_213 P) BT.nil BT.nil) (BT.node (o_277 P) BT.nil BT.nil)))) (BT.node (o_61 P) (BT.node (o_77 P) (BT.node (o_109 P) (BT.node (o_173 P) (BT.node (o_301 P) BT.nil BT.nil) BT.nil) (BT.node (o_237 P) BT.nil BT.nil)) (BT.node (o_141 P) (BT.node (o_205 P) BT.nil BT.nil) (BT.node (o_269 P) BT.nil BT.nil))) (BT.node (o_93 P) (BT.node (o_125 P) (BT.node (o_189 P) (BT.node (o_317 P) BT.nil BT.nil) BT.nil) (BT.node (o_253 P) BT.nil BT.nil)) (BT.node (o_157 P) (BT.node (o_221 P) BT.nil BT.nil) (BT.node (o_285 P) BT.nil BT.nil))))) (BT.node (o_45 P) (BT.node (o_57 P) (BT.node (o_73 P) (BT.node (o_105 P) (BT.node (o_169 P) (BT.node (o_297 P) BT.nil BT.nil) BT.nil) (BT.node (o_233 P) BT.nil BT.nil)) (BT.node (o_137 P) (BT.node (o_201 P) BT.nil BT.nil) (BT.node (o_265 P) BT.nil BT.nil))) (BT.node (o_89 P) (BT.node (o_121 P) (BT.node (o_185 P) (BT.node (o_313 P) BT.nil BT.nil) BT.nil) (BT.node (o_249 P) BT.nil BT.nil)) (BT.node (o_153 P) (BT.node (o_217 P) BT.nil BT.nil) (BT.node (o_281 P) BT.nil BT.nil)))) (BT.node (o_65 P) (BT.node (o_81 P) (BT.node (o_113 P) (BT.node (o_177 P) (BT.node (o_305 P) BT.nil BT.nil) BT.nil) (BT.node (o_241 P) BT.nil BT.nil)) (BT.node (o_145 P) (BT.node (o_209 P) BT.nil BT.nil) (BT.node (o_273 P) BT.nil BT.nil))) (BT.node (o_97 P) (BT.node (o_129 P) (BT.node (o_193 P) BT.nil BT.nil) (BT.node (o_257 P) BT.nil BT.nil)) (BT.node (o_161 P) (BT.node (o_225 P) BT.nil BT.nil) (BT.node (o_289 P) BT.nil BT.nil))))))) (BT.node (boot_o_2 P) (BT.node (boot_o_4 P) (BT.node (boot_o_8 P) (BT.node (o_52 P) (BT.node (o_68 P) (BT.node (o_100 P) (BT.node (o_164 P) (BT.node (o_292 P) BT.nil BT.nil) BT.nil) (BT.node (o_228 P) BT.nil BT.nil)) (BT.node (o_132 P) (BT.node (o_196 P) BT.nil BT.nil) (BT.node (o_260 P) BT.nil BT.nil))) (BT.node (o_84 P) (BT.node (o_116 P) (BT.node (o_180 P) (BT.node (o_308 P) BT.nil BT.nil) BT.nil) (BT.node (o_244 P) BT.nil BT.nil)) (BT.node (o_148 P) (BT.node (o_212 P) BT.nil BT.nil) (BT.node (o_276 P) BT.nil BT.nil)))) (BT.node (o_60 P) (BT.node (o_76 P) (BT.node (o_108 P) (BT.node (o_172 P) (BT.node (o_300 P) BT.nil BT.nil) BT.nil) (BT.node (o_236 P) BT.nil BT.nil)) (BT.node (o_140 P) (BT.node (o_204 P) BT.nil BT.nil) (BT.node (o_268 P) BT.nil BT.nil))) (BT.node (o_92 P) (BT.node (o_124 P) (BT.node (o_188 P) (BT.node (o_316 P) BT.nil BT.nil) BT.nil) (BT.node (o_252 P) BT.nil BT.nil)) (BT.node (o_156 P) (BT.node (o_220 P) BT.nil BT.nil) (BT.node (o_284 P) BT.nil BT.nil))))) (BT.node (o_44 P) (BT.node (o_56 P) (BT.node (o_72 P) (BT.node (o_104 P) (BT.node (o_168 P) (BT.node (o_296 P) BT.nil BT.nil) BT.nil) (BT.node (o_232 P) BT.nil BT.nil)) (BT.node (o_136 P) (BT.node (o_200 P) BT.nil BT.nil) (BT.node (o_264 P) BT.nil BT.nil))) (BT.node (o_88 P) (BT.node (o_120 P) (BT.node (o_184 P) (BT.node (o_312 P) BT.nil BT.nil) BT.nil) (BT.node (o_248 P) BT.nil BT.nil)) (BT.node (o_152 P) (BT.node (o_216 P) BT.nil BT.nil) (BT.node (o_280 P) BT.nil BT.nil)))) (BT.node (o_64 P) (BT.node (o_80 P) (BT.node (o_112 P) (BT.node (o_176 P) (BT.node (o_304 P) BT.nil BT.nil) BT.nil) (BT.node (o_240 P) BT.nil BT.nil)) (BT.node (o_144 P) (BT.node (o_208 P) BT.nil BT.nil) (BT.node (o_272 P) BT.nil BT.nil))) (BT.node (o_96 P) (BT.node (o_128 P) (BT.node (o_192 P) BT.nil BT.nil) (BT.node (o_256 P) BT.nil BT.nil)) (BT.node (o_160 P) (BT.node (o_224 P) BT.nil BT.nil) (BT.node (o_288 P) BT.nil BT.nil)))))) (BT.node (boot_o_6 P) (BT.node (boot_o_10 P) (BT.node (o_54 P) (BT.node (o_70 P) (BT.node (o_102 P) (BT.node (o_166 P) (BT.node (o_294 P) BT.nil BT.nil) BT.nil) (BT.node (o_230 P) BT.nil BT.nil)) (BT.node (o_134 P) (BT.node (o_198 P) BT.nil BT.nil) (BT.node (o_262 P) BT.nil BT.nil))) (BT.node (o_86 P) (BT.node (o_118 P) (BT.node (o_182 P) (BT.node (o_310 P) BT.nil BT.nil) BT.nil) (BT.node (o_246 P) BT.nil BT.nil)) (BT.node (o_150 P) (BT.node (o_214 P) BT.nil BT.nil) (BT.node (o_278 P) BT.nil BT.nil)))) (BT.node (o_62 P) (BT.node (o_78 P) (BT.node (o_110 P) (BT.node (o_174 P) (BT.node (o_302 P) BT.nil BT.nil) BT.nil) (BT.node (o_238 P) BT.nil BT.nil)) (BT.node (o_142 P) (BT.node (o_206 P) BT.nil BT.nil) (BT.node (o_270 P) BT.nil BT.nil))) (BT.node (o_94 P) (BT.node (o_126 P) (BT.node (o_190 P) (BT.node (o_318 P) BT.nil BT.nil) BT.nil) (BT.node (o_254 P) BT.nil BT.nil)) (BT.node (o_158 P) (BT.node (o_222 P) BT.nil BT.nil) (BT.node (o_286 P) BT.nil BT.nil))))) (BT.node (o_46 P) (BT.node (o_58 P) (BT.node (o_74 P) (BT.node (o_106 P) (BT.node (o_170 P) (BT.node (o_298 P) BT.nil BT.nil) BT.nil) (BT.node (o_234 P) BT.nil BT.nil)) (BT.node (o_138 P) (BT.node (o_202 P) BT.nil BT.nil) (BT.node (o_266 P) BT.nil BT.nil))) (BT.node (o_90 P) (BT.node (o_122 P) (BT.node (o_186 P) (BT.node (o_314 P) BT.nil BT.nil) BT.nil) (BT.node (o_250 P) BT.nil BT.nil)) (BT.node (o_154 P) (BT.node (o_218 P) BT.nil BT.nil) (BT.node (o_282 P) BT.nil BT.nil)))) (BT.node (o_66 P) (BT.node (o_82 P) (BT.node (o_114 P) (BT.node (o_178 P) (BT.node (o_306 P) BT.nil BT.nil) BT.nil) (BT.node (o_242 P) BT.nil BT.nil)) (BT.node (o_146 P) (BT.node (o_210 P) BT.nil BT.nil) (BT.node (o_274 P) BT.nil BT.nil))) (BT.node (o_98 P) (BT.node (o_130 P) (BT.node (o_194 P) BT.nil BT.nil) (BT.node (o_258 P) BT.nil BT.nil)) (BT.node (o_162 P) (BT.node (o_226 P) BT.nil BT.nil) (BT.node (o_290 P) BT.nil BT.nil)))))))))
abbrev ps0 : Pos := ⟨0, 0, 0, 0⟩
abbrev dr0 : Drawn := ⟨0, 0, 0, 0⟩
def envM : Env := { scope := PG.main.scope, locals := mainNs, globals := mainNs, cells := [], code := .ref 13, frame := some 14 }
abbrev cB : Code := .body (behindTheImports PG) envM
abbrev frB : List Frame := [topFrame ps0]
abbrev bootS (w : World) (os : OsState) : Shared := ⟨boot_heap w.params, #[], boot_drawn, boot_toks, os⟩
def sa (w : World) (os : OsState) : Shared := ⟨heap_46 w.params, #[], dr0, 187, os⟩
def sb (w : World) (os : OsState) : SharedT := ⟨tree_47 w.params, 15, lifeF, #[], dr0, 187, os⟩
/-- behind the first two statements -/
def sf (w : World) (os : OsState) : SharedT := ⟨tree_318 w.params, 283, lifeF, #[], dr0, 873, os⟩
theorem runPre (w : World) (os : OsState) : topGo treeTable PG w 11 (some (.ref 6)) 12 (bootS w os) (topStub PG) = some (sa w os, ⟨denote treeTable cB, cB, ps0, frB⟩) := by kernel_rfl
theorem runBlk (w : World) (os : OsState) : segRun treeTable PG w 11 (some (.ref 6)) 1 1 (sa w os) (blockOf (behindTheImports PG) envM cB ps0 frB) = some (.next, (sb w os).abs, cB, ps0) := by kernel_rfl
def first : List Stmt := (behindTheImports PG).take 2
abbrev exQ : List Stmt → Env → Sem Flow := PySem.W.Fast.tw12563942051412417395
abbrev Two (w : World) : Prop := ∀ os : OsState, PySem.W.Fast.tw10110043849684766642 HandSHeadRun.tabQ PG w 11 (some (.ref 6)) 1 3010 (sb w os) ⟨(exQ first envM).wrap doneF deadEnd id id, cB, ps0, frB⟩ = some (.next, sf w os, cB, ⟨2, 0, 2, 6⟩)
theorem two0 (w : World) (os : OsState) : PySem.W.Fast.tw10110043849684766642 HandSHeadRun.tabQ PG (w.withFollow "special-get-raises" false) 11 (some (.ref 6)) 1 3010 (sb (w.withFollow "special-get-raises" false) os) ⟨(exQ first envM).wrap doneF deadEnd id id, cB, ps0, frB⟩ = some (.next, sf (w.withFollow "special-get-raises" false) os, cB, ⟨2, 0, 2, 6⟩) := by kernel_rfl
theorem two1 (w : World) (os : OsState) : PySem.W.Fast.tw10110043849684766642 HandSHeadRun.tabQ PG (w.withFollow "special-get-raises" true) 11 (some (.ref 6)) 1 3010 (sb (w.withFollow "special-get-raises" true) os) ⟨(exQ first envM).wrap doneF deadEnd id id, cB, ps0, frB⟩ = some (.next, sf (w.withFollow "special-get-raises" true) os, cB, ⟨2, 0, 2, 6⟩) := by kernel_rfl
theorem runTwo (w : World) : Two w := byRow2 "special-get-raises" (P := Two) two0 two1 w
end HDR

noncomputable section
namespace HDR
open PySem PySem.W PySem.Calls PyProof.Rows HandSHeadRun
def rest2 : List Stmt := (behindTheImports PG).drop 2
abbrev qv : Program := view PG [52]
def nmA : List PySem.Str := ["LIST_MARKS", "FIELDS", "TreeError", "BadKind", "BadField", "BadNode", "BadChange", "Dots", "Float", "Imaginary", "Octets", "ATTRIBUTES", "Node", "_default", "fields_of", "check_node", "copied", "with_parts", "transform", "_transformed", "_new_value", "_new_items", "_fits_list", "_as_items"]
def nmB : List PySem.Str := ["_law_draw", "_law_pick", "_law_table", "_law_pattern_table", "_law_fields", "_law_group", "_law_constants", "_law_spot", "_law_part", "_law_model", "_law_made_part", "_law_node", "_law_below", "_law_models", "_law_is_part", "_law_is_so", "_law_return", "_law_acted", "_law_bound", "_law_calls", "_law_is_bad", "_law_ended"]
def names : List PySem.Str := nmA ++ nmB
abbrev thB : Thread := ⟨(exQ rest2 envM).wrap doneF (leaveH envM) id id, cB, ⟨2, 0, 2, 6⟩, frB⟩
end HDR

noncomputable section
namespace HDR
open PySem PySem.W PySem.Calls PyProof.Rows HandSHeadRun
/-- what the whole top comes to, from the run behind the first two statements -/
theorem whole {w : World} {os : OsState} {N : Nat} {z : SharedT} (h : goF (stepQ (denQ tabQ) PG w) 11 (some (.ref 6)) N (sf w os) thB = some z) :
    topRun treeTable PG w 11 (some (.ref 6)) (12 + (1 + (3010 + N))) (bootS w os) (topStub PG) = some z.abs := by
  have e1 : stepQ (denQ tabQ) PG w = stepT (denote treeTable) PG w := by rw [← stepQ_eq, ← denQ_eq, ← tabQ_eq]
  rw [e1] at h
  have h1 := goF_ok h
  have ex : exQ = execs := PySem.W.Fast.te12563942051412417395.symm
  have t2 := runTwo w os
  rw [ex, ← PySem.W.Fast.te10110043849684766642, ← tabQ_eq] at t2
  have t3 := segRun_of t2
  have e2 : thB = restOf rest2 envM cB ⟨2, 0, 2, 6⟩ frB := by unfold thB restOf; rw [ex]
  rw [e2] at h1
  have t4 := piece_app t3 h1
  have e3 : first ++ rest2 = behindTheImports PG := List.take_append_drop 2 _
  rw [e3] at t4
  exact go_top (runPre w os) (piece_block (runBlk w os) t4)
theorem annB (w : World) : bootAnn w = some (.ref 6) := by
  unfold bootAnn
  kernel_rfl
theorem sizeB (w : World) : (boot_heap w.params).objs.size = 11 := by kernel_rfl
end HDR

namespace Q8
open PySem PySem.Spec PyProof.Rows L2
def topS (i : Nat) : Stmt := PySem.Challenge.pw_treequill_k81_transforms_refused.main.body.getD i (.Pass ⟨0, 0, 0, 0⟩)
abbrev sDraw : Stmt := topS 30
abbrev sPick : Stmt := topS 31
theorem scDraw : FnScope ["_law_stream", "_law_many", "_law_digit", "_law_mixed", "_law_last"] ["_law_stream", "_law_many"] (defScope sDraw) := ⟨rfl, rfl, rfl, by decide +kernel, rfl, by decide +kernel, by decide +kernel⟩
theorem scPick : FnScope ["_law_stream", "_law_some"] ["_law_stream", "_law_some"] (defScope sPick) := ⟨rfl, rfl, rfl, by decide +kernel, rfl, by decide +kernel, by decide +kernel⟩
/-- the stream's state: what is left of the cells, the great cell at hand, how many were mixed, the mixed number -/
structure Stm where
  cells : List Int
  cur : Int
  cnt : Int
  mix : Int
structure StmAt (H : Hp) (a c : Addr) (S : Stm) : Prop where
  lst : H a = some (.lst [.ref c, .int S.cur, .int S.cnt, .int S.mix])
  cel : H c = some (.lst (S.cells.map V.int))
  ne : a ≠ c
  len : S.cells.length ≤ 63
  cur0 : 0 ≤ S.cur
  cnt0 : 0 ≤ S.cnt
  mix0 : 0 ≤ S.mix
  mix1 : S.mix < 2147483647
/-- all that stood but the stream stands -/
def Kept (a c : Addr) (H H' : Hp) : Prop := ∀ b o, b ≠ a → b ≠ c → H b = some o → H' b = some o
theorem Kept.refl (a c : Addr) (H : Hp) : Kept a c H H := fun _ _ _ _ h => h
theorem Kept.trans {a c : Addr} {H H1 H2 : Hp} (x : Kept a c H H1) (y : Kept a c H1 H2) : Kept a c H H2 := fun b o n1 n2 h => y b o n1 n2 (x b o n1 n2 h)
theorem Kept.updA {a c : Addr} {H H1 : Hp} {o : HO} (x : Kept a c H H1) : Kept a c H (upd H1 a o) := fun b u n1 n2 h => by
  rw [upd_ne n1]; exact x b u n1 n2 h
theorem Kept.updC {a c : Addr} {H H1 : Hp} {o : HO} (x : Kept a c H H1) : Kept a c H (upd H1 c o) := fun b u n1 n2 h => by
  rw [upd_ne n2]; exact x b u n1 n2 h
theorem Kept.new {a c p : Addr} {H H1 : Hp} {o : HO} (x : Kept a c H H1) (h : H1 p = none) : Kept a c H (upd H1 p o) := fun b u n1 n2 e => by
  rw [upd_ne (ne_of_none (x b u n1 n2 e) h)]; exact x b u n1 n2 e
theorem Kept.same {a c : Addr} {H H1 : Hp} (x : Same H H1) : Kept a c H H1 := fun b u _ _ h => x b u h
def spDraw : Sp := fun vs H Q _ => ∃ (a c : Addr) (S : Stm) (m : Int), vs = [.ref a, .int m] ∧ StmAt H a c S ∧ S.cnt < 1000000 ∧ 0 < m ∧ m < 1000000 ∧
  ∀ (H' : Hp) (S' : Stm) (r : Int), StmAt H' a c S' → S'.cnt ≤ S.cnt + 1 → Kept a c H H' → 0 ≤ r → r < m → Q (.int r) H'
theorem dp_ints {K : PySem.W.Frag} {H : Hp} : ∀ ns : List Int, DpAll K H (ns.map V.int) (ns.map PyData.int)
  | [] => .nil
  | n :: r => .cons (.int n) (dp_ints r)
theorem shaped_ints (ns : List Int) : SeqAt.shaped (.list (ns.map PyData.int)) = true := by first | exact ke_shaped_ints ns | exact PySem.W.ke_shaped_ints ns | exact PyProof.Rows.ke_shaped_ints ns
theorem eqv_ints_nil : ∀ ns : List Int, PyData.eqv (.list (ns.map PyData.int)) (.list []) = ns.isEmpty
  | [] => rfl
  | _ :: _ => rfl
section
variable {P : Program} {w : World} {K : PySem.W.Frag} {mg : Str → Option Value} {base : Heap}
theorem ok_draw {f : Addr} {fd : FuncData} (F : Fun K "_law_draw" "_law_draw" sDraw f fd) (mi : mg "int" = none) : FnOk P w K mg base CX0 1 f fd ["_law_stream", "_law_many"] spDraw := by
  refine F.ok scDraw (fun vs H Q E h => ?_) (fun cdv A outer s H vs Q E hr h => ?_)
  · obtain ⟨a, c, S, m, rfl, _⟩ := h
    rfl
  obtain ⟨a, c, S, m, rfl, hS, hcnt, hm0, hm1, q⟩ := h
  refine ⟨_, C8.pss_cut (ps_while PassesOwn.never
      (PW.pt (pw_and (pt_cmpR op_eq (pe_ix ix_list (pv 0) pe_int (fun _ _ => rfl)) pe_int (nomark _))
        (pw_and1 (pt_cmpR (op_neD hr.units) (pe_ix ix_list (pv 0) pe_int (fun _ _ => rfl)) (pe_lst pa_nil) (nomark _)))))
      (pss_cons (ps_asg (pe_bm PySem.F.plainAttrs_list PySem.F.slot_list_pop PySem.F.type_list_pop mt_popAt (pe_ix ix_list (pv 0) pe_int (fun _ _ => rfl)) (pa_cons pe_int pa_nil)) (pg_sub (pv 0) pe_int set_list))
      (pss_one (ps_if (pt_cmpR op_lt (pe_ix ix_list (pv 0) pe_int (fun _ _ => rfl)) (pe_op op_pow pe_int pe_int) (nomark _))
        (pss_cons (ps_asg (pe_op op_mod (pe_callTy call_int1 (by rfl) mi (by decide +kernel) (pa_cons (pe_op op_add (pe_op op_add (pe_op op_mul (pe_ix ix_list (pv 0) pe_int (fun _ _ => rfl)) pe_int) (pe_ix ix_list (pv 0) pe_int (fun _ _ => rfl))) pe_int) pa_nil)) pe_int) (pg_sub (pv 0) pe_int set_list))
        (pss_one (ps_asg pe_int (pg_sub (pv 0) pe_int set_list)))) pss_nil))))
    (pss_cons (ps_if (pt_cmpR op_gt (pe_ix ix_list (pv 0) pe_int (fun _ _ => rfl)) pe_int (nomark _))
        (pss_cons (ps_set (i := 2) scDraw.nd rfl (.inl rfl) (pe_op op_mod (pe_callTy call_int1 (by rfl) mi (by decide +kernel) (pa_cons (pe_ix ix_list (pv 0) pe_int (fun _ _ => rfl)) pa_nil)) (pv 1)))
        (pss_cons (ps_asg (pe_op op_fdivN (pe_ix ix_list (pv 0) pe_int (fun _ _ => rfl)) (pv 1)) (pg_sub (pv 0) pe_int set_list))
        (pss_one (ps_ret (pv 2))))) pss_nil)
    (pss_cons (ps_asg (pe_op op_add (pe_ix ix_list (pv 0) pe_int (fun _ _ => rfl)) pe_int) (pg_sub (pv 0) pe_int set_list))
    (pss_cons (ps_set (i := 3) scDraw.nd rfl (.inl rfl) (pe_op op_mod (pe_callTy call_int1 (by rfl) mi (by decide +kernel) (pa_cons (pe_op op_pow (pe_op op_add (pe_op op_add (pe_ix ix_list (pv 0) pe_int (fun _ _ => rfl)) (pe_op op_mul pe_int (pe_ix ix_list (pv 0) pe_int (fun _ _ => rfl)))) pe_int) pe_int) pa_nil)) pe_int))
    (pss_cons (ps_set (i := 4) scDraw.nd rfl (.inl rfl) (pe_op op_mod (pe_callTy call_int1 (by rfl) mi (by decide +kernel) (pa_cons (pe_op op_pow (pe_op op_add (pe_op op_add (pe_op op_mul (pv 3) pe_int) (pe_op op_mul (pe_op op_mul pe_int (pe_ix ix_list (pv 0) pe_int (fun _ _ => rfl))) (pe_ix ix_list (pv 0) pe_int (fun _ _ => rfl)))) pe_int) pe_int) pa_nil)) pe_int))
    (pss_one (ps_ret (pe_op op_mod (pe_callTy call_int1 (by rfl) mi (by decide +kernel) (pa_cons (pv 4) pa_nil)) (pv 1)))))))), ?_⟩
  refine ⟨fun σ H1 => ∃ S1 : Stm, σ = [some (.ref a), some (.int m), none, none, none] ∧ StmAt H1 a c S1 ∧ S1.cnt = S.cnt ∧ Kept a c H H1,
    ⟨fun n σ H1 => ∃ S1 : Stm, σ = [some (.ref a), some (.int m), none, none, none] ∧ StmAt H1 a c S1 ∧ S1.cnt = S.cnt ∧ Kept a c H H1 ∧ S1.cells.length = n, ⟨_, S, rfl, hS, rfl, .refl _ _ _, rfl⟩, ?_⟩, ?_⟩
  · rintro n σ H1 ⟨S1, rfl, h1, ec, k1, el⟩
    refine ⟨_, rfl, a, _, _, _, rfl, rfl, SqL.of h1.lst, rfl, rfl, _, rfl, ?_⟩
    have l0 := h1.cur0
    have l1 := h1.cnt0
    have l2 := h1.mix0
    have l3 := h1.mix1
    refine ite2 (fun c1 => ?_) (fun c1 => ?_)
    · -- the cells: != []
      have c1' : S1.cur = 0 := by simpa using c1
      refine ⟨_, rfl, a, _, _, _, rfl, rfl, SqL.of h1.lst, rfl, Nat.zero_le _, fun l nl => ?_⟩
      have na : a ≠ l := ne_of_none h1.lst nl
      have nc : c ≠ l := ne_of_none h1.cel nl
      have h2 : StmAt (upd H1 l (.lst [])) a c S1 := ⟨by rw [upd_ne na]; exact h1.lst, by rw [upd_ne nc]; exact h1.cel, h1.ne, h1.len, h1.cur0, h1.cnt0, h1.mix0, h1.mix1⟩
      have k2 : Kept a c H (upd H1 l (.lst [])) := k1.new nl
      refine ⟨_, _, .lst (SqL.of h2.cel) (dp_ints S1.cells), .lst (SqL.of upd_same) .nil, shaped_ints _, rfl, _, rfl, ?_⟩
      rw [eqv_ints_nil]
      generalize upd H1 l (.lst []) = H2 at h2 k2
      cases hS1 : S1.cells with
      | nil =>
        refine iteF ?_
        exact ⟨S1, rfl, h2, ec, k2⟩
      | cons v r =>
        refine iteT ?_
        refine ⟨fun σ' H' => ∃ S3 : Stm, σ' = [some (.ref a), some (.int m), none, none, none] ∧ StmAt H' a c S3 ∧ S3.cnt = S.cnt ∧ Kept a c H H' ∧ S3.cells.length < n, fun σ' H' ⟨S3, e, h3, e3, k3, l3⟩ => ⟨_, l3, S3, e, h3, e3, k3, rfl⟩, ?_⟩
        have eL : S1.cells.length = r.length + 1 := by rw [hS1]; rfl
        have hcel : H2 c = some (.lst (.int v :: r.map V.int)) := by have := h2.cel; rw [hS1] at this; exact this
        have h63 := h1.len
        -- pop(0), the store
        refine ⟨_, rfl, a, _, _, _, rfl, rfl, SqL.of h2.lst, rfl, .inl ⟨rfl, _, SqL.of hcel⟩, c, _, 0, 0, _, rfl, rfl, hcel, by decide, by decide, ?_, rfl, ?_⟩
        · show (if (decide (0 ≤ (0 : Int)) && decide ((0 : Int) < ((V.int v :: r.map V.int).length : Nat))) = true then some _ else none) = some 0
          simp
        have hlst2 : (upd H2 c (.lst (r.map V.int))) a = some (.lst [.ref c, .int S1.cur, .int S1.cnt, .int S1.mix]) := by rw [upd_ne h1.ne]; exact h2.lst
        refine ⟨_, rfl, a, _, 1, 1, rfl, rfl, hlst2, rfl, ?_⟩
        have k3 : Kept a c H (upd (upd H2 c (.lst (r.map V.int))) a (.lst [.ref c, .int v, .int S1.cnt, .int S1.mix])) := k2.updC.updA
        have h3l : (upd (upd H2 c (.lst (r.map V.int))) a (.lst [.ref c, .int v, .int S1.cnt, .int S1.mix])) a = some (.lst [.ref c, .int v, .int S1.cnt, .int S1.mix]) := upd_same
        have h3c : (upd (upd H2 c (.lst (r.map V.int))) a (.lst [.ref c, .int v, .int S1.cnt, .int S1.mix])) c = some (.lst (r.map V.int)) := by rw [upd_ne h1.ne.symm]; exact upd_same
        refine ⟨_, rfl, a, _, _, _, rfl, rfl, SqL.of h3l, rfl, _, _, rfl, rfl, ⟨by decide, by decide, by decide⟩, _, _, rfl, rfl, _, rfl, ?_⟩
        have hl : r.length ≤ 63 := by omega
        refine ite2 (fun c2 => ?_) (fun c2 => ?_)
        · refine ⟨_, rfl, a, _, _, _, rfl, rfl, SqL.of h3l, rfl, _, _, rfl, rfl, .inl ⟨by omega, by omega⟩, _, rfl, a, _, _, _, rfl, rfl, SqL.of h3l, rfl, _, _, rfl, rfl, _, _, rfl, rfl, .inl ⟨_, rfl, _, _, rfl, rfl, (by show (0 : Int) < 2147483647; decide), ?_⟩⟩
          refine ⟨_, rfl, a, _, 3, 3, rfl, rfl, h3l, rfl, ?_⟩
          refine ⟨_, rfl, a, _, 1, 1, rfl, rfl, upd_same, rfl, ?_⟩
          refine ⟨⟨r, 0, S1.cnt, (S1.mix * 31 + v + 7) % 2147483647⟩, rfl, ⟨upd_same, ?_, h1.ne, hl, Int.le_refl 0, l1, Int.emod_nonneg _ (by decide), Int.emod_lt_of_pos _ (by decide)⟩, ec, k3.updA.updA, by show r.length < _; omega⟩
          rw [upd_ne h1.ne.symm, upd_ne h1.ne.symm]
          exact h3c
        · have c2' : ¬ v < 10 ^ 18 := by simpa using c2
          refine ⟨⟨r, v, S1.cnt, S1.mix⟩, rfl, ⟨h3l, h3c, h1.ne, hl, by show 0 ≤ v; omega, l1, l2, l3⟩, ec, k3, by show r.length < _; omega⟩
    · exact ⟨S1, rfl, h1, ec, k1⟩
  · rintro σ H1 ⟨S1, rfl, h1, ec, k1⟩
    have l0 := h1.cur0
    have l1 := h1.cnt0
    have l2 := h1.mix0
    have l3 := h1.mix1
    refine ⟨_, rfl, a, _, _, _, rfl, rfl, SqL.of h1.lst, rfl, _, _, rfl, rfl, _, rfl, ?_⟩
    refine ite2 (fun c1 => ?_) (fun c1 => ?_)
    · have c1' : 0 < S1.cur := by simpa using c1
      refine ⟨_, rfl, a, _, _, _, rfl, rfl, SqL.of h1.lst, rfl, .inl ⟨_, rfl, _, rfl, _, _, rfl, rfl, hm0, ?_⟩⟩
      refine ⟨_, rfl, a, _, _, _, rfl, rfl, SqL.of h1.lst, rfl, _, rfl, _, _, rfl, rfl, ⟨by omega, by omega⟩, ?_⟩
      refine ⟨_, rfl, a, _, 1, 1, rfl, rfl, h1.lst, rfl, _, rfl, ?_⟩
      refine q _ ⟨S1.cells, S1.cur.fdiv m, S1.cnt, S1.mix⟩ _ ⟨upd_same, ?_, h1.ne, h1.len, ?_, l1, l2, l3⟩ (by show S1.cnt ≤ _; omega) k1.updA (Int.emod_nonneg _ (by omega)) (Int.emod_lt_of_pos _ hm0)
      · rw [upd_ne h1.ne.symm]; exact h1.cel
      · show 0 ≤ S1.cur.fdiv m
        rw [Int.fdiv_eq_ediv_of_nonneg _ (by omega)]
        exact Int.ediv_nonneg (by omega) (by omega)
    · refine ⟨_, rfl, a, _, _, _, rfl, rfl, SqL.of h1.lst, rfl, _, _, rfl, rfl, ?_⟩
      refine ⟨_, rfl, a, _, 2, 2, rfl, rfl, h1.lst, rfl, ?_⟩
      have h2l : (upd H1 a (.lst [.ref c, .int S1.cur, .int (S1.cnt + 1), .int S1.mix])) a = some (.lst [.ref c, .int S1.cur, .int (S1.cnt + 1), .int S1.mix]) := upd_same
      refine ⟨_, rfl, a, _, _, _, rfl, rfl, SqL.of h2l, rfl, _, rfl, a, _, _, _, rfl, rfl, SqL.of h2l, rfl, _, _, rfl, rfl, .inl ⟨by decide, by decide⟩, _, _, rfl, rfl, _, _, rfl, rfl, _, _, rfl, rfl, ⟨by decide, by decide, by show (S1.mix + 104729 * (S1.cnt + 1) + 17).natAbs < 2 ^ 64; omega⟩, .inl ⟨_, rfl, _, _, rfl, rfl, (by show (0 : Int) < 2147483629; decide), ?_⟩⟩
      obtain ⟨M, eM⟩ : ∃ M : Int, (S1.mix + 104729 * (S1.cnt + 1) + 17) ^ (5 : Int).toNat % 2147483629 = M := ⟨_, rfl⟩
      have m0 : 0 ≤ M := by rw [← eM]; exact Int.emod_nonneg _ (by decide)
      have m1 : M < 2147483629 := by rw [← eM]; exact Int.emod_lt_of_pos _ (by decide)
      refine ⟨_, rfl, _, _, rfl, rfl, .inl ⟨by rw [eM]; omega, by rw [eM]; omega⟩, _, rfl, a, _, _, _, rfl, rfl, SqL.of h2l, rfl, _, _, rfl, rfl, .inl ⟨by decide, by decide⟩, _, rfl, a, _, _, _, rfl, rfl, SqL.of h2l, rfl, _, _, rfl, rfl, .inl ⟨by omega, by omega⟩, _, _, rfl, rfl, _, _, rfl, rfl, _, _, rfl, rfl, ⟨by decide, by decide, ?_⟩, .inl ⟨_, rfl, _, _, rfl, rfl, (by show (0 : Int) < 1000000007; decide), ?_⟩⟩
      · have n1 : (S1.cnt + 1) * (S1.cnt + 1) ≤ 1000000 * 1000000 := Int.mul_le_mul (by omega) (by omega) (by omega) (by omega)
        have n2 : 0 ≤ (S1.cnt + 1) * (S1.cnt + 1) := Int.mul_nonneg (by omega) (by omega)
        have n3 : 40503 * (S1.cnt + 1) * (S1.cnt + 1) = 40503 * ((S1.cnt + 1) * (S1.cnt + 1)) := Int.mul_assoc _ _ _
        show ((S1.mix + 104729 * (S1.cnt + 1) + 17) ^ (5 : Int).toNat % 2147483629 * 48271 + 40503 * (S1.cnt + 1) * (S1.cnt + 1) + 13).natAbs < 2 ^ 64
        rw [n3, eM]
        omega
      refine ⟨_, rfl, .inl ⟨_, rfl, _, rfl, _, _, rfl, rfl, hm0, ?_⟩⟩
      refine q _ ⟨S1.cells, S1.cur, S1.cnt + 1, S1.mix⟩ _ ⟨h2l, ?_, h1.ne, h1.len, l0, by show 0 ≤ S1.cnt + 1; omega, l2, l3⟩ (by show S1.cnt + 1 ≤ _; omega) k1.updA (Int.emod_nonneg _ (by omega)) (Int.emod_lt_of_pos _ hm0)
      rw [upd_ne h1.ne.symm]; exact h1.cel
/-- _law_pick: an item of the list or tuple at l -/
def spPick (K : PySem.W.Frag) : Sp := fun vs H Q _ => ∃ (a c l : Addr) (S : Stm) (xs : List V), vs = [.ref a, .ref l] ∧ StmAt H a c S ∧ S.cnt < 1000000 ∧ H l = some (.lst xs) ∧ l ≠ a ∧ l ≠ c ∧ 0 < xs.length ∧ xs.length < 1000000 ∧
  ∀ (H' : Hp) (S' : Stm) (x : V), StmAt H' a c S' → S'.cnt ≤ S.cnt + 1 → Kept a c H H' → x ∈ xs → Q x H'
theorem ok_pick {f g : Addr} {fd gd : FuncData} (F : Fun K "_law_pick" "_law_pick" sPick f fd) (D : FnOk P w K mg base CX0 1 g gd ["_law_stream", "_law_many"] spDraw) (bD : Binds K gd ["_law_stream", "_law_many"] []) (kD : PySem.W.keepIn K (.ref g) = true) (mD : mg "_law_draw" = some (.ref g)) (ml : mg "len" = none) :
    FnOk P w K mg base CX0 2 f fd ["_law_stream", "_law_some"] (spPick K) := by
  refine F.ok scPick (fun vs H Q E h => ?_) (fun cdv A outer s H vs Q E hr h => ?_)
  · obtain ⟨a, c, l, S, xs, rfl, _⟩ := h
    rfl
  obtain ⟨a, c, l, S, xs, rfl, hS, hcnt, hl, la, lc, h0, h1, q⟩ := h
  refine ⟨_, pss_one (ps_ret (pe_ix ix_list (pv 1) (pe_call D hr rfl mD kD bD .nil pass0 (pa_cons (pv 0) (pa_cons (pe_callB call_len_seq rfl ml PySem.boot_len (pa_cons (pv 1) pa_nil)) pa_nil))) (fun _ _ => rfl))), ?_⟩
  refine ⟨_, rfl, _, rfl, _, rfl, l, _, rfl, .inl (SqL.of hl), a, c, S, _, rfl, hS, hcnt, by omega, by omega, fun H' S' r h' hc k hr0 hr1 => ?_⟩
  have hl' := k l _ la lc hl
  obtain ⟨j, rfl⟩ : ∃ j : Nat, r = (j : Int) := ⟨r.toNat, by omega⟩
  have hj : j < xs.length := by omega
  exact ⟨l, _, _, _, rfl, rfl, SqL.of hl', atI_nat (List.getElem?_eq_getElem hj), q H' S' _ h' hc k (List.getElem_mem hj)⟩
/-- _law_pick: a sign of a text -/
def spPickS : Sp := fun vs H Q _ => ∃ (a c : Addr) (S : Stm) (x : Str), vs = [.ref a, .str x] ∧ StmAt H a c S ∧ S.cnt < 1000000 ∧ 0 < x.length ∧ x.length < 1000000 ∧
  ∀ (H' : Hp) (S' : Stm) (n : Nat), StmAt H' a c S' → S'.cnt ≤ S.cnt + 1 → Kept a c H H' → n ∈ x.cps.toList → Q (.str ⟨#[n]⟩) H'
theorem ok_pickS {f g : Addr} {fd gd : FuncData} (F : Fun K "_law_pick" "_law_pick" sPick f fd) (D : FnOk P w K mg base CX0 1 g gd ["_law_stream", "_law_many"] spDraw) (bD : Binds K gd ["_law_stream", "_law_many"] []) (kD : PySem.W.keepIn K (.ref g) = true) (mD : mg "_law_draw" = some (.ref g)) (ml : mg "len" = none) :
    FnOk P w K mg base CX0 2 f fd ["_law_stream", "_law_some"] spPickS := by
  refine F.ok scPick (fun vs H Q E h => ?_) (fun cdv A outer s H vs Q E hr h => ?_)
  · obtain ⟨a, c, S, x, rfl, _⟩ := h
    rfl
  obtain ⟨a, c, S, x, rfl, hS, hcnt, h0, h1, q⟩ := h
  refine ⟨_, pss_one (ps_ret (pe_ix ix_str (pv 1) (pe_call D hr rfl mD kD bD .nil pass0 (pa_cons (pv 0) (pa_cons (pe_callB call_len_str rfl ml PySem.boot_len (pa_cons (pv 1) pa_nil)) pa_nil))) (fun _ _ => rfl))), ?_⟩
  have z : (1000000 : Nat) < sizeLine := by decide
  refine ⟨_, rfl, _, rfl, _, rfl, _, rfl, by omega, a, c, S, _, rfl, hS, hcnt, by omega, by omega, fun H' S' r h' hc k hr0 hr1 => ?_⟩
  obtain ⟨j, rfl⟩ : ∃ j : Nat, r = (j : Int) := ⟨r.toNat, by omega⟩
  have hj : j < x.cps.toList.length := by
    have : x.length = x.cps.toList.length := by simp [Str.length]
    omega
  refine ⟨_, _, _, rfl, rfl, by omega, atI_nat (List.getElem?_eq_getElem hj), q H' S' _ h' hc k (List.getElem_mem hj)⟩
end
theorem Kept.free {a c : Addr} {H H1 : Hp} (k : Kept a c H H1) (ha : H1 a ≠ none) (hc : H1 c ≠ none) {b : Addr} (h : H1 b = none) : H b = none := by
  cases e : H b with
  | none => rfl
  | some o =>
    have na : b ≠ a := fun z => ha (z ▸ h)
    have nc : b ≠ c := fun z => hc (z ▸ h)
    rw [k b o na nc e] at h
    cases h
theorem StmAt.a0 {H : Hp} {a c : Addr} {S : Stm} (h : StmAt H a c S) : H a ≠ none := by rw [h.lst]; simp
theorem StmAt.c0 {H : Hp} {a c : Addr} {S : Stm} (h : StmAt H a c S) : H c ≠ none := by rw [h.cel]; simp
theorem StmAt.keep {H H' : Hp} {a c : Addr} {S : Stm} (h : StmAt H a c S) (k : Same H H') : StmAt H' a c S := ⟨k _ _ h.lst, k _ _ h.cel, h.ne, h.len, h.cur0, h.cnt0, h.mix0, h.mix1⟩
theorem same_new {H : Hp} {p : Addr} {o : HO} (h : H p = none) : Same H (upd H p o) := fun b u e => by rw [upd_ne (ne_of_none e h)]; exact e
end Q8

namespace Q8
open PySem PySem.Spec PyProof.Rows L2 StX
/-! ### keywords that go to **more -/
theorem push_upd (h : Heap) (o : Obj) (f : Obj → Obj) : (h.push o).update h.objs.size f = h.push (f o) := by
  obtain ⟨objs, l⟩ := h
  show (⟨(objs.push o).modify objs.size f, l⟩ : Heap) = ⟨objs.push (f o), l⟩
  congr 1
  apply Array.ext
  · simp
  · intro i h1 h2
    simp only [Array.size_modify, Array.size_push] at h1
    rw [Array.getElem_modify]
    by_cases hi : i = objs.size
    · subst hi
      simp
    · have : i < objs.size := by omega
      rw [if_neg (Ne.symm hi), Array.getElem_push_lt this, Array.getElem_push_lt this]
def dO (es : List DictEntry) (n : Nat) : Obj := { cls := .type "dict", data := .dict es.toArray n }
/-- the entries of a dict of keywords -/
inductive Es (w : World) : List DictEntry → List (Str × Value) → Prop
  | nil : Es w [] []
  | cons {k : Str} {t : Tok} {v : Value} {es : List DictEntry} {r : List (Str × Value)} : Es w es r → Es w (⟨hashStr w k, .str k t, v⟩ :: es) ((k, v) :: r)
theorem Es.snoc {w : World} {k : Str} {t : Tok} {v : Value} {es : List DictEntry} {r : List (Str × Value)} (h : Es w es r) : Es w (es ++ [⟨hashStr w k, .str k t, v⟩]) (r ++ [(k, v)]) := by
  induction h with
  | nil => exact .cons .nil
  | cons _ ih => exact .cons ih
theorem Es.str {w : World} {k : Str} {es : List DictEntry} {r : List (Str × Value)} (h : Es w es r) (hk : k ∉ r.map (·.1)) : es.any (·.key.isStr k) = false := by
  induction h with
  | nil => rfl
  | @cons k' t v es r _ ih =>
    have h1 : k' ≠ k := fun z => hk (by rw [← z]; exact List.mem_cons_self ..)
    have h2 := ih fun z => hk (List.mem_cons_of_mem _ z)
    rw [List.any_cons, h2, Bool.or_false]
    show (k' == k) = false
    exact beq_eq_false_iff_ne.mpr h1
theorem Es.ref {w : World} {es : List DictEntry} {r : List (Str × Value)} (h : Es w es r) : es.any (·.refKey) = false := by
  induction h with
  | nil => rfl
  | cons _ ih => rw [List.any_cons, ih]; rfl
theorem Es.pairs {P : Program} {w : World} {es : List DictEntry} {r : List (Str × Value)} (h : Es w es r) : Pairs (mixKind P w) es (r.map fun p => ((Sum.inr p.1 : Key), p.2)) := by
  induction h with
  | nil => exact .nil
  | cons _ ih => exact .cons (mixKind_str _ _ _ _) rfl ih
theorem Es.keys {P : Program} {w : World} {es : List DictEntry} {r : List (Str × Value)} (h : Es w es r) : KeysOf (mixKind P w) es.toArray := by
  intro e he
  have he : e ∈ es := by simpa using he
  induction h with
  | nil => cases he
  | cons _ ih =>
    rcases List.mem_cons.mp he with z | z
    · subst z; exact ⟨.inr _, mixKind_str _ _ _ _, rfl⟩
    · exact ih (by simpa using z) z
theorem ns_put {prog : Program} {w : World} {A : Around} {E : Value → Shared → Prop} {Q : Unit → Shared → Prop} {s : Shared} {h : Heap} {es : List DictEntry} {n : Nat} {r : List (Str × Value)} {k : Str} {v : Value} (he : s.heap = h.push (dO es n)) (W : Es w es r) (hk : k ∉ r.map (·.1))
    (q : ∀ t : Tok, Q () { s with heap := h.push (dO (es ++ [⟨hashStr w k, .str k t, v⟩]) (n + 1)), toks := s.toks + 1 }) : wpAny (model prog w) A (nsSet h.objs.size k v) Q E s := by
  have e1 := W.str hk
  have e2 := W.ref
  have D : s.heap.get? h.objs.size = some (dO es n) := by rw [he]; exact Heap.get?_push_size _ rfl
  have c : aRefKeyMayBeTheName k es.toArray = false := by
    rw [aRefKeyMayBeTheName_at, ← Array.any_toList, ← Array.any_toList]
    show (!es.any (·.key.isStr k) && es.any (·.refKey)) = false
    rw [e2, Bool.and_false]
  have e : Obj.putName k (hashStr w k) (.str k s.toks) v (dO es n) = dO (es ++ [⟨hashStr w k, .str k s.toks, v⟩]) (n + 1) := by
    unfold dO
    rw [PySem.W.putName_dict, PySem.W.putL_new (fun x hx => by
      have z := List.any_eq_false.mp e1 x hx
      simpa using z)]
    show PySem.W.dictOf _ (if es.any (·.key.isStr k) then n else n + 1) = _
    rw [e1, if_neg Bool.false_ne_true]
  unfold nsSet
  refine wpAny_bind (wpAny_bind (wpAny_askSetting (wpAny_pure (wpAny_bind (wpAny_mkText (wpAny_bind (wpAny_loadPart D ?_)))))))
  dsimp only [dO]
  rw [c]
  refine wpAny_updatePart D ?_
  have z := q s.toks
  rw [← e, ← push_upd, ← he] at z
  exact z

theorem ns_fill {prog : Program} {w : World} {A : Around} {E : Value → Shared → Prop} {h : Heap} {Q : PUnit → Shared → Prop} : ∀ (ex : List (Str × Value)) (s : Shared) (es : List DictEntry) (n : Nat) (r : List (Str × Value)), s.heap = h.push (dO es n) → Es w es r → ((r ++ ex).map (·.1)).Nodup →
    (∀ es' n' t', Es w es' (r ++ ex) → Q ⟨⟩ { s with heap := h.push (dO es' n'), toks := t' }) →
    wpAny (model prog w) A (forIn ex PUnit.unit fun x _ => (nsSet h.objs.size x.1 x.2 >>= fun _ => pure (ForInStep.yield PUnit.unit))) Q E s
  | [], s, es, n, r, he, W, hn, q => by
    rw [List.forIn_nil]
    have z := q es n s.toks (by rw [List.append_nil]; exact W)
    refine wpAny_pure ?_
    rw [← he] at z
    exact z
  | x :: ex, s, es, n, r, he, W, hn, q => by
    rw [List.forIn_cons]
    have hx : x.1 ∉ r.map (·.1) := fun z => by
      rw [List.map_append, List.nodup_append] at hn
      exact hn.2.2 _ z _ (List.mem_cons_self ..) rfl
    refine wpAny_bind (wpAny_bind (ns_put he W hx fun t => wpAny_pure ?_))
    have e : (r ++ [x]) ++ ex = r ++ x :: ex := by simp
    refine ns_fill ex _ _ _ (r ++ [x]) rfl W.snoc (by rw [e]; exact hn) fun es' n' t' W' => ?_
    rw [e] at W'
    exact q es' n' t' W'
def fkv (ns : List Str) (vs : List V) : List (Key × V) := List.zipWith (fun n v => (Sum.inr n, v)) ns vs
theorem kv_kw : ∀ {ks : List Str} {zs : List V} {ws : List Value}, Vals zs ws → KV (fkv ks zs) ((ks.zip ws).map fun p => ((Sum.inr p.1 : Key), p.2))
  | [], _, _, _ => .nil
  | _ :: _, [], _, .nil => .nil
  | k :: ks, z :: zs, _, .cons a r => .cons ⟨rfl, a⟩ (kv_kw r)
theorem kw_ok {P : Program} {w : World} {H : Hp} {h : Heap} {ks : List Str} {zs : List V} {ws : List Value} {es : List DictEntry} {n : Nat} (hb : sysModules < h.objs.size) (hn : ks.Nodup) (hz : ks.length ≤ sizeLine) (hl : ws.length = ks.length) (r : Vals zs ws) (W : Es w es (ks.zip ws)) :
    ObjOk P w H (h.push (dO es n)) h.objs.size (.dK (fkv ks zs)) := by
  refine ⟨?_, beq_eq_false_iff_ne.mpr (Ne.symm (Nat.ne_of_lt hb)), _, kv_kw r, dO es n, es.toArray, n, Heap.get?_push_size _ rfl, ⟨rfl, rfl, rfl⟩, rfl, W.keys, ?_, ?_⟩
  · unfold fkv
    rw [List.length_zipWith]
    omega
  · have e : es.toArray.toList = es := by simp
    rw [e]
    exact W.pairs
  · rw [List.map_map]
    have e : ((fun p : Key × Value => p.1) ∘ fun p : Str × Value => ((Sum.inr p.1 : Key), p.2)) = (fun x : Str => (Sum.inr x : Key)) ∘ Prod.fst := rfl
    rw [e, ← List.map_map, List.map_fst_zip (by omega)]
    exact hn.map _ fun x y z => fun q => z (Sum.inr.inj q)
def FnRK (P : Program) (w : World) (K : PySem.W.Frag) (mg : Str → Option Value) (base : Heap) (CX : CXT) (k : Nat) (f : Addr) (ks : List Str) (sp : List V → List V → Hp → VK → XK → Prop) : Prop :=
  ∀ (A : Around) (outer : List Env) (s : Shared) (H : Hp) (us ws : List Value) (vs zs : List V) (Q : VK) (E : XK), Room k A → Env0 P w K mg base A outer s H → Vals vs us → Vals zs ws → ws.length = ks.length → sp vs zs H Q E →
    codeAny (model P w) A (.call (.ref f) ⟨us, ks.zip ws⟩) (CR CX outer P w H s Q E) s
section
variable {CX : CXT} {P : Program} {w : World} {K : PySem.W.Frag} {mg : Str → Option Value} {base : Heap} {k : Nat} {f : Addr} {name qual : Str} {params : Arguments} {body : List Stmt} {scope : Scope} {dV kV doc pm cdv ct oc : Value} {an od : Option Addr}
  {osl : Array (Option Value)} {N ps : List Str} {sp : Sp}
/-- def f(a, .., *v, **d), called with keywords ks, none of them a parameter's name -/
theorem fn_starkwK {pv pd : Str} {ks : List Str} (lk : K.lookup f = some ⟨oc, od, .func (PySem.W.fnOf name qual params body scope dV kV doc pm an cdv ct), osl⟩) (hcd : PySem.W.codeIn K cdv qual = true) (S : FnScope N (ps ++ [pv, pd]) scope) (hCX : CXUp CX) (hn : ks.Nodup) (hkz : ks.length ≤ sizeLine)
    (hb : ∀ us rest ws : List Value, us.length = ps.length → ws.length = ks.length → bindArgs (PySem.W.fnOf name qual params body scope dV kV doc pm an cdv ct) ⟨us ++ rest, ks.zip ws⟩ =
      (newTuple rest >>= fun t => (alloc ({ cls := .type "dict", data := .dict #[] } : Obj) : Sem Addr) >>= fun d => (forIn (ks.zip ws) PUnit.unit fun x _ => (nsSet d x.1 x.2 >>= fun _ => pure (ForInStep.yield PUnit.unit))) >>= fun _ => pure (ps.zip us ++ [(pv, t), (pd, Value.ref d)])))
    (hbody : ∀ (A : Around) (outer : List Env) (s : Shared) (H : Hp) (vs : List V) (Q : VK) (E : XK), Room k (A.deeper (envOfC qual scope s.heap.objs.size f cdv)) → sp vs H Q E →
      ∃ t, PSs (cxOf CX P w K mg base N qual scope f cdv A outer s H E) body t ∧ t { nx := fun _ H' => Q .non H', rt := Q } (start N vs) H) :
    FnRK P w K mg base CX (k + 1) f ks (fun vs zs H Q E => ∃ ws rest, vs = ws ++ rest ∧ ws.length = ps.length ∧ rest.length ≤ sizeLine ∧ ∀ p d, H p = Option.none → H d = Option.none → d ≠ p → sp (ws ++ [V.ref p, V.ref d]) (upd (upd H p (.tup rest)) d (.dK (fkv ks zs))) Q E) := by
  intro A outer s H us kw vs zs Q E hr e0 r rz hlw hsp
  obtain ⟨ws, rest, ev, hl, hz, hq⟩ := hsp
  subst ev
  obtain ⟨u1, u2, eu, r1, r2⟩ := vals_split r
  subst eu
  have hnn : H s.heap.objs.size = Option.none := e0.hok.fresh (Nat.le_refl _)
  have hl1 : u1.length = ps.length := by rw [← r1.length]; exact hl
  have hl2 : u2.length ≤ sizeLine := by rw [← r2.length]; exact hz
  refine run_bnd lk hcd S hr e0 (G := fun xs H2 => ∃ p d, H p = Option.none ∧ H d = Option.none ∧ d ≠ p ∧ xs = ws ++ [V.ref p, V.ref d] ∧ H2 = upd (upd H p (.tup rest)) d (.dK (fkv ks zs))) (fun A' Ex Q' h => ?_) fun s2 H2 xs ⟨p, d, hp, hd, hne, ex, eH⟩ hr' => ?_
  · rw [hb u1 u2 kw hl1 hlw]
    refine wpAny_bind (wpAny_newTuple (wpAny_bind (wpAny_alloc (wpAny_bind (ns_fill (w := w) (ks.zip kw) _ [] 0 [] rfl .nil ?_ fun es n t W => wpAny_pure ?_)))) hl2)
    · rw [List.nil_append, List.map_fst_zip (by omega)]
      exact hn
    rw [List.nil_append] at W
    have new : ObjOk P w (upd H s.heap.objs.size (.tup rest)) (s.heap.push ({ cls := .type "tuple", data := .seq u2.toArray } : Obj)) s.heap.objs.size (.tup rest) := ⟨hz, u2, r2, ⟨_, Heap.get?_push_size _ rfl, rfl, _, rfl⟩⟩
    have e1 := env0_laid e0 new
    have un1 := un_laid (fs := frs outer) (s := s) (o := ({ cls := .type "tuple", data := .seq u2.toArray } : Obj)) (u := .tup rest) hnn
    have hn2 := e1.hok.fresh (Nat.le_refl _)
    have e2 := env0_laid (u := .dK (fkv ks zs)) (o := dO es n) e1 (kw_ok (env0_big e1) hn hkz hlw rz W)
    have un2 := un1.trans (un_laid (fs := frs outer) (s := { s with heap := s.heap.push ({ cls := .type "tuple", data := .seq u2.toArray } : Obj) }) (o := dO es n) (u := .dK (fkv ks zs)) hn2)
    have sz : (s.heap.push ({ cls := .type "tuple", data := .seq u2.toArray } : Obj)).objs.size = s.heap.objs.size + 1 := Heap.size_push _ _
    have ne : (s.heap.push ({ cls := .type "tuple", data := .seq u2.toArray } : Obj)).objs.size ≠ s.heap.objs.size := by
      rw [sz]
      exact Nat.succ_ne_self _
    have hd : H (s.heap.push ({ cls := .type "tuple", data := .seq u2.toArray } : Obj)).objs.size = Option.none := e0.hok.fresh (by rw [sz]; exact Nat.le_succ _)
    have z := h { s with heap := (s.heap.push ({ cls := .type "tuple", data := .seq u2.toArray } : Obj)).push (dO es n), toks := t } _ (ws ++ [V.ref s.heap.objs.size, V.ref (s.heap.push ({ cls := .type "tuple", data := .seq u2.toArray } : Obj)).objs.size]) (u1 ++ [Value.ref s.heap.objs.size, Value.ref (s.heap.push ({ cls := .type "tuple", data := .seq u2.toArray } : Obj)).objs.size]) ⟨e2.frames, e2.mod, e2.bs, e2.bsz, e2.funs, e2.frf, e2.hok, e2.bare⟩ un2 rfl
      (fun e s' => hCX outer s H _ _ E e s' un2 (fun b o q => Heap.get?_push_of_some _ (Heap.get?_push_of_some _ q)) rfl) (r1.append (.cons rfl (.cons rfl .nil))) (by rw [List.length_append, List.length_append, hl] <;> rfl) ⟨_, _, hnn, hd, ne, rfl, rfl⟩
    rw [List.zip_append hl1.symm] at z
    exact z
  · subst ex eH
    exact hbody A outer s2 _ _ Q E hr' (hq p d hp hd hne)
end
end Q8

namespace Q8
open PySem PySem.Spec PyProof.Rows L2 StX
/-! ### FIELDS -/
def attrs : List Str := ["lineno", "col_offset", "end_lineno", "end_col_offset"]
def fr0_0 : Str × List (Str × Str × Str) := ("Module", [("body", "STMT", "*")])
def fr0_1 : Str × List (Str × Str × Str) := ("Expression", [("body", "EXPR", "")])
def fr0_2 : Str × List (Str × Str × Str) := ("FunctionDef", [("name", "NAME", ""), ("args", "arguments", ""), ("body", "STMT", "+"), ("decorator_list", "EXPR", "*"), ("returns", "EXPR", "?")])
def fr0_3 : Str × List (Str × Str × Str) := ("AsyncFunctionDef", [("name", "NAME", ""), ("args", "arguments", ""), ("body", "STMT", "+"), ("decorator_list", "EXPR", "*"), ("returns", "EXPR", "?")])
def fr0_4 : Str × List (Str × Str × Str) := ("ClassDef", [("name", "NAME", ""), ("bases", "EXPR", "*"), ("keywords", "keyword", "*"), ("body", "STMT", "+"), ("decorator_list", "EXPR", "*")])
def fr0_5 : Str × List (Str × Str × Str) := ("Return", [("value", "EXPR", "?")])
def fr0_6 : Str × List (Str × Str × Str) := ("Delete", [("targets", "EXPR", "+")])
def fr0_7 : Str × List (Str × Str × Str) := ("Assign", [("targets", "EXPR", "+"), ("value", "EXPR", "")])
def fr0_8 : Str × List (Str × Str × Str) := ("AugAssign", [("target", "EXPR", ""), ("op", "OPERATOR", ""), ("value", "EXPR", "")])
def fr0_9 : Str × List (Str × Str × Str) := ("AnnAssign", [("target", "EXPR", ""), ("annotation", "EXPR", ""), ("value", "EXPR", "?"), ("simple", "BIT", "")])
def fr0_10 : Str × List (Str × Str × Str) := ("For", [("target", "EXPR", ""), ("iter", "EXPR", ""), ("body", "STMT", "+"), ("orelse", "STMT", "*")])
def fr0_11 : Str × List (Str × Str × Str) := ("AsyncFor", [("target", "EXPR", ""), ("iter", "EXPR", ""), ("body", "STMT", "+"), ("orelse", "STMT", "*")])
def fr0_12 : Str × List (Str × Str × Str) := ("While", [("test", "EXPR", ""), ("body", "STMT", "+"), ("orelse", "STMT", "*")])
def fr0_13 : Str × List (Str × Str × Str) := ("If", [("test", "EXPR", ""), ("body", "STMT", "+"), ("orelse", "STMT", "*")])
def fr0_14 : Str × List (Str × Str × Str) := ("With", [("items", "withitem", "+"), ("body", "STMT", "+")])
def fr0_15 : Str × List (Str × Str × Str) := ("AsyncWith", [("items", "withitem", "+"), ("body", "STMT", "+")])
def fr0_16 : Str × List (Str × Str × Str) := ("Match", [("subject", "EXPR", ""), ("cases", "match_case", "+")])
def fr0_17 : Str × List (Str × Str × Str) := ("Raise", [("exc", "EXPR", "?"), ("cause", "EXPR", "?")])
def fr0_18 : Str × List (Str × Str × Str) := ("Assert", [("test", "EXPR", ""), ("msg", "EXPR", "?")])
def fr0_19 : Str × List (Str × Str × Str) := ("Try", [("body", "STMT", "+"), ("handlers", "ExceptHandler", "*"), ("orelse", "STMT", "*"), ("finalbody", "STMT", "*")])
def fr0_20 : Str × List (Str × Str × Str) := ("Import", [("names", "alias", "+")])
def fr0_21 : Str × List (Str × Str × Str) := ("ImportFrom", [("module", "DOTTED", "?"), ("names", "alias", "+"), ("level", "COUNT", "")])
def fr0_22 : Str × List (Str × Str × Str) := ("Global", [("names", "NAME", "+")])
def fr0_23 : Str × List (Str × Str × Str) := ("Nonlocal", [("names", "NAME", "+")])
def fr0_24 : Str × List (Str × Str × Str) := ("Expr", [("value", "EXPR", "")])
def fr0_25 : Str × List (Str × Str × Str) := ("Pass", [])
def Fld0 : List (Str × List (Str × Str × Str)) := [fr0_0, fr0_1, fr0_2, fr0_3, fr0_4, fr0_5, fr0_6, fr0_7, fr0_8, fr0_9, fr0_10, fr0_11, fr0_12, fr0_13, fr0_14, fr0_15, fr0_16, fr0_17, fr0_18, fr0_19, fr0_20, fr0_21, fr0_22, fr0_23, fr0_24, fr0_25]
def fr1_0 : Str × List (Str × Str × Str) := ("Break", [])
def fr1_1 : Str × List (Str × Str × Str) := ("Continue", [])
def fr1_2 : Str × List (Str × Str × Str) := ("BoolOp", [("op", "BOOLEAN", ""), ("values", "EXPR", "+")])
def fr1_3 : Str × List (Str × Str × Str) := ("NamedExpr", [("target", "EXPR", ""), ("value", "EXPR", "")])
def fr1_4 : Str × List (Str × Str × Str) := ("BinOp", [("left", "EXPR", ""), ("op", "OPERATOR", ""), ("right", "EXPR", "")])
def fr1_5 : Str × List (Str × Str × Str) := ("UnaryOp", [("op", "UNARY", ""), ("operand", "EXPR", "")])
def fr1_6 : Str × List (Str × Str × Str) := ("Lambda", [("args", "arguments", ""), ("body", "EXPR", "")])
def fr1_7 : Str × List (Str × Str × Str) := ("IfExp", [("test", "EXPR", ""), ("body", "EXPR", ""), ("orelse", "EXPR", "")])
def fr1_8 : Str × List (Str × Str × Str) := ("Dict", [("keys", "EXPR", "?*"), ("values", "EXPR", "*")])
def fr1_9 : Str × List (Str × Str × Str) := ("Set", [("elts", "EXPR", "+")])
def fr1_10 : Str × List (Str × Str × Str) := ("ListComp", [("elt", "EXPR", ""), ("generators", "comprehension", "+")])
def fr1_11 : Str × List (Str × Str × Str) := ("SetComp", [("elt", "EXPR", ""), ("generators", "comprehension", "+")])
def fr1_12 : Str × List (Str × Str × Str) := ("GeneratorExp", [("elt", "EXPR", ""), ("generators", "comprehension", "+")])
def fr1_13 : Str × List (Str × Str × Str) := ("DictComp", [("key", "EXPR", ""), ("value", "EXPR", ""), ("generators", "comprehension", "+")])
def fr1_14 : Str × List (Str × Str × Str) := ("Await", [("value", "EXPR", "")])
def fr1_15 : Str × List (Str × Str × Str) := ("Yield", [("value", "EXPR", "?")])
def fr1_16 : Str × List (Str × Str × Str) := ("YieldFrom", [("value", "EXPR", "")])
def fr1_17 : Str × List (Str × Str × Str) := ("Compare", [("left", "EXPR", ""), ("ops", "COMPARISON", "+"), ("comparators", "EXPR", "+")])
def fr1_18 : Str × List (Str × Str × Str) := ("Call", [("func", "EXPR", ""), ("args", "EXPR", "*"), ("keywords", "keyword", "*")])
def fr1_19 : Str × List (Str × Str × Str) := ("FormattedValue", [("value", "EXPR", ""), ("conversion", "CONVERSION", ""), ("format_spec", "JoinedStr", "?")])
def fr1_20 : Str × List (Str × Str × Str) := ("JoinedStr", [("values", "EXPR", "*")])
def fr1_21 : Str × List (Str × Str × Str) := ("Constant", [("value", "VALUE", "")])
def fr1_22 : Str × List (Str × Str × Str) := ("Attribute", [("value", "EXPR", ""), ("attr", "NAME", ""), ("ctx", "CONTEXT", "")])
def fr1_23 : Str × List (Str × Str × Str) := ("Subscript", [("value", "EXPR", ""), ("slice", "EXPR", ""), ("ctx", "CONTEXT", "")])
def fr1_24 : Str × List (Str × Str × Str) := ("Starred", [("value", "EXPR", ""), ("ctx", "CONTEXT", "")])
def fr1_25 : Str × List (Str × Str × Str) := ("Name", [("id", "NAME", ""), ("ctx", "CONTEXT", "")])
def Fld1 : List (Str × List (Str × Str × Str)) := [fr1_0, fr1_1, fr1_2, fr1_3, fr1_4, fr1_5, fr1_6, fr1_7, fr1_8, fr1_9, fr1_10, fr1_11, fr1_12, fr1_13, fr1_14, fr1_15, fr1_16, fr1_17, fr1_18, fr1_19, fr1_20, fr1_21, fr1_22, fr1_23, fr1_24, fr1_25]
def fr2_0 : Str × List (Str × Str × Str) := ("List", [("elts", "EXPR", "*"), ("ctx", "CONTEXT", "")])
def fr2_1 : Str × List (Str × Str × Str) := ("Tuple", [("elts", "EXPR", "*"), ("ctx", "CONTEXT", "")])
def fr2_2 : Str × List (Str × Str × Str) := ("Slice", [("lower", "EXPR", "?"), ("upper", "EXPR", "?"), ("step", "EXPR", "?")])
def fr2_3 : Str × List (Str × Str × Str) := ("comprehension", [("target", "EXPR", ""), ("iter", "EXPR", ""), ("ifs", "EXPR", "*"), ("is_async", "BIT", "")])
def fr2_4 : Str × List (Str × Str × Str) := ("ExceptHandler", [("exc", "EXPR", "?"), ("name", "NAME", "?"), ("body", "STMT", "+")])
def fr2_5 : Str × List (Str × Str × Str) := ("arguments", [("posonlyargs", "arg", "*"), ("args", "arg", "*"), ("vararg", "arg", "?"), ("kwonlyargs", "arg", "*"), ("kw_defaults", "EXPR", "?*"), ("kwarg", "arg", "?"), ("defaults", "EXPR", "*")])
def fr2_6 : Str × List (Str × Str × Str) := ("arg", [("arg", "NAME", ""), ("annotation", "EXPR", "?")])
def fr2_7 : Str × List (Str × Str × Str) := ("keyword", [("arg", "NAME", "?"), ("value", "EXPR", "")])
def fr2_8 : Str × List (Str × Str × Str) := ("alias", [("name", "DOTTED_OR_STAR", ""), ("asname", "NAME", "?")])
def fr2_9 : Str × List (Str × Str × Str) := ("withitem", [("context_expr", "EXPR", ""), ("optional_vars", "EXPR", "?")])
def fr2_10 : Str × List (Str × Str × Str) := ("match_case", [("pattern", "PATTERN", ""), ("guard", "EXPR", "?"), ("body", "STMT", "+")])
def fr2_11 : Str × List (Str × Str × Str) := ("MatchValue", [("value", "EXPR", "")])
def fr2_12 : Str × List (Str × Str × Str) := ("MatchSingleton", [("value", "SINGLETON", "")])
def fr2_13 : Str × List (Str × Str × Str) := ("MatchSequence", [("patterns", "PATTERN", "*")])
def fr2_14 : Str × List (Str × Str × Str) := ("MatchOr", [("patterns", "PATTERN", "+")])
def fr2_15 : Str × List (Str × Str × Str) := ("MatchMapping", [("keys", "EXPR", "*"), ("patterns", "PATTERN", "*"), ("rest", "NAME", "?")])
def fr2_16 : Str × List (Str × Str × Str) := ("MatchClass", [("cls", "EXPR", ""), ("patterns", "PATTERN", "*"), ("kwd_attrs", "NAME", "*"), ("kwd_patterns", "PATTERN", "*")])
def fr2_17 : Str × List (Str × Str × Str) := ("MatchStar", [("name", "NAME", "?")])
def fr2_18 : Str × List (Str × Str × Str) := ("MatchAs", [("pattern", "PATTERN", "?"), ("name", "NAME", "?")])
def fr2_19 : Str × List (Str × Str × Str) := ("And", [])
def fr2_20 : Str × List (Str × Str × Str) := ("Or", [])
def fr2_21 : Str × List (Str × Str × Str) := ("Invert", [])
def fr2_22 : Str × List (Str × Str × Str) := ("Not", [])
def fr2_23 : Str × List (Str × Str × Str) := ("UAdd", [])
def fr2_24 : Str × List (Str × Str × Str) := ("USub", [])
def fr2_25 : Str × List (Str × Str × Str) := ("Load", [])
def Fld2 : List (Str × List (Str × Str × Str)) := [fr2_0, fr2_1, fr2_2, fr2_3, fr2_4, fr2_5, fr2_6, fr2_7, fr2_8, fr2_9, fr2_10, fr2_11, fr2_12, fr2_13, fr2_14, fr2_15, fr2_16, fr2_17, fr2_18, fr2_19, fr2_20, fr2_21, fr2_22, fr2_23, fr2_24, fr2_25]
def fr3_0 : Str × List (Str × Str × Str) := ("Store", [])
def fr3_1 : Str × List (Str × Str × Str) := ("Del", [])
def fr3_2 : Str × List (Str × Str × Str) := ("Add", [])
def fr3_3 : Str × List (Str × Str × Str) := ("Sub", [])
def fr3_4 : Str × List (Str × Str × Str) := ("Mult", [])
def fr3_5 : Str × List (Str × Str × Str) := ("MatMult", [])
def fr3_6 : Str × List (Str × Str × Str) := ("Div", [])
def fr3_7 : Str × List (Str × Str × Str) := ("FloorDiv", [])
def fr3_8 : Str × List (Str × Str × Str) := ("Pow", [])
def fr3_9 : Str × List (Str × Str × Str) := ("LShift", [])
def fr3_10 : Str × List (Str × Str × Str) := ("RShift", [])
def fr3_11 : Str × List (Str × Str × Str) := ("BitOr", [])
def fr3_12 : Str × List (Str × Str × Str) := ("BitXor", [])
def fr3_13 : Str × List (Str × Str × Str) := ("BitAnd", [])
def fr3_14 : Str × List (Str × Str × Str) := ("Eq", [])
def fr3_15 : Str × List (Str × Str × Str) := ("NotEq", [])
def fr3_16 : Str × List (Str × Str × Str) := ("Lt", [])
def fr3_17 : Str × List (Str × Str × Str) := ("LtE", [])
def fr3_18 : Str × List (Str × Str × Str) := ("Gt", [])
def fr3_19 : Str × List (Str × Str × Str) := ("GtE", [])
def fr3_20 : Str × List (Str × Str × Str) := ("Is", [])
def fr3_21 : Str × List (Str × Str × Str) := ("IsNot", [])
def fr3_22 : Str × List (Str × Str × Str) := ("In", [])
def fr3_23 : Str × List (Str × Str × Str) := ("NotIn", [])
def Fld3 : List (Str × List (Str × Str × Str)) := [fr3_0, fr3_1, fr3_2, fr3_3, fr3_4, fr3_5, fr3_6, fr3_7, fr3_8, fr3_9, fr3_10, fr3_11, fr3_12, fr3_13, fr3_14, fr3_15, fr3_16, fr3_17, fr3_18, fr3_19, fr3_20, fr3_21, fr3_22, fr3_23]
def Fld : List (Str × List (Str × Str × Str)) := Fld0 ++ Fld1 ++ Fld2 ++ Fld3
def tupIn (K : PySem.W.Frag) (a : Addr) : Option (List Value) := match K.lookup a with
  | some o => match o.data with
    | .seq its _ => if o.cls == .type "tuple" && decide (its.size ≤ 1000) then some its.toList else none
    | _ => none
  | none => none
theorem tupIn_sq {K : PySem.W.Frag} {H : Hp} {a : Addr} {us : List Value} {vs : List V} (h : tupIn K a = some us) (r : Vals vs us) : SqT K H a vs := by
  unfold tupIn at h
  split at h
  · rename_i o ho
    split at h
    · rename_i its n hd
      split at h
      · rename_i hc
        cases h
        obtain ⟨h1, h2⟩ := Bool.and_eq_true_iff.mp hc
        refine .inr ⟨o, its, n, ho, ?_, hd, ?_, r⟩
        · exact beq_iff_eq.mp h1
        · have z : (1000 : Nat) ≤ sizeLine := by decide
          have := of_decide_eq_true h2
          omega
      · cases h
    · cases h
  · cases h
def strIs (x : Str) : Value → Bool
  | .str y _ => decide (x = y)
  | _ => false
theorem strIs_rel {x : Str} {u : Value} (h : strIs x u = true) : RelV (.str x) u := by
  unfold strIs at h
  split at h
  · have := of_decide_eq_true h
    subst this
    exact ⟨_, rfl⟩
  · cases h
def strsIs : List Str → List Value → Bool
  | [], [] => true
  | x :: r, u :: us => strIs x u && strsIs r us
  | _, _ => false
theorem strsIs_vals : ∀ {xs : List Str} {us : List Value}, strsIs xs us = true → Vals (xs.map V.str) us
  | [], [], _ => .nil
  | x :: r, u :: us, h => by
    obtain ⟨h1, h2⟩ := Bool.and_eq_true_iff.mp h
    exact .cons (strIs_rel h1) (strsIs_vals h2)
  | [], _ :: _, h => by cases h
  | _ :: _, [], h => by cases h
def rowsIs (K : PySem.W.Frag) : List (Str × Str × Str) → List Value → Bool
  | [], [] => true
  | r :: rs, u :: us => (match u with
    | .ref b => (match tupIn K b with
      | some ys => strsIs [r.1, r.2.1, r.2.2] ys
      | none => false)
    | _ => false) && rowsIs K rs us
  | _, _ => false
/-- a kind's row at a -/
def RowAt (K : PySem.W.Frag) (a : Addr) (rs : List (Str × Str × Str)) : Prop := ∃ as : List Addr, (∀ H, SqT K H a (as.map V.ref)) ∧ as.length = rs.length ∧ ∀ (i : Nat) b r, as[i]? = some b → rs[i]? = some r → ∀ H, SqT K H b [.str r.1, .str r.2.1, .str r.2.2]
theorem rowsIs_at {K : PySem.W.Frag} : ∀ {rs : List (Str × Str × Str)} {us : List Value}, rowsIs K rs us = true → ∃ as : List Addr, Vals (as.map V.ref) us ∧ as.length = rs.length ∧ ∀ (i : Nat) b r, as[i]? = some b → rs[i]? = some r → ∀ H, SqT K H b [.str r.1, .str r.2.1, .str r.2.2]
  | [], [], _ => ⟨[], .nil, rfl, fun i b r e => by simp at e⟩
  | r :: rs, u :: us, h => by
    obtain ⟨h1, h2⟩ := Bool.and_eq_true_iff.mp h
    obtain ⟨as, v, l, p⟩ := rowsIs_at h2
    split at h1
    · rename_i b
      split at h1
      · rename_i ys hy
        refine ⟨b :: as, .cons rfl v, congrArg (· + 1) l, fun i b' r' e1 e2 H => ?_⟩
        cases i with
        | zero =>
          cases e1
          cases e2
          exact tupIn_sq hy (strsIs_vals h1)
        | succ i => exact p i b' r' e1 e2 H
      · cases h1
    · cases h1
  | [], _ :: _, h => by cases h
  | _ :: _, [], h => by cases h
def fldOne (K : PySem.W.Frag) (aF : Addr) (p : Str × List (Str × Str × Str)) : Bool := match PySem.W.nsIn K aF p.1 with
  | some (some (.ref a)) => (match tupIn K a with
    | some us => rowsIs K p.2 us
    | none => false)
  | _ => false
def fldIs (K : PySem.W.Frag) (aF : Addr) : Bool := Fld.all (fldOne K aF)
theorem lookMem {β : Type} {k : Str} {x : β} : ∀ {rows : List (Str × β)}, rows.lookup k = some x → (k, x) ∈ rows
  | [], h => by cases h
  | (a, y) :: r, h => by
    rw [List.lookup_cons] at h
    split at h
    · rename_i e
      cases h
      rw [beq_iff_eq.mp e]
      exact List.mem_cons_self ..
    · exact List.mem_cons_of_mem _ (lookMem h)
theorem fldIs_at {K : PySem.W.Frag} {aF : Addr} (h : fldIs K aF = true) {k : Str} {rs : List (Str × Str × Str)} (hk : Fld.lookup k = some rs) : ∃ a, PySem.W.nsIn K aF k = some (some (.ref a)) ∧ RowAt K a rs := by
  have z := List.all_eq_true.mp h _ (lookMem hk)
  unfold fldOne at z
  split at z
  · rename_i a ha
    split at z
    · rename_i us hu
      obtain ⟨as, v, l, p⟩ := rowsIs_at z
      exact ⟨a, ha, as, fun H => tupIn_sq hu v, l, p⟩
    · cases z
  · cases z
/-- what the program's name FIELDS holds -/
structure Tabs (K : PySem.W.Frag) (w : World) (mg : Str → Option Value) (aF aA : Addr) (eF : Array DictEntry) (nF : Nat) : Prop where
  dF : KDict K w aF eF nF
  mF : mg "FIELDS" = some (.ref aF)
  oF : fldIs K aF = true
  mA : mg "ATTRIBUTES" = some (.ref aA)
  oA : ∀ H, SqT K H aA (attrs.map V.str)
theorem rows_small {k : Str} {rs : List (Str × Str × Str)} (h : Fld.lookup k = some rs) : rs.length ≤ 7 := by
  have z : (Fld.all fun p => decide (p.2.length ≤ 7)) = true := by decide +kernel
  exact of_decide_eq_true (List.all_eq_true.mp z _ (lookMem h))
def namesOf (rs : List (Str × Str × Str)) : List Str := rs.map (·.1)
theorem rows_nodup {k : Str} {rs : List (Str × Str × Str)} (h : Fld.lookup k = some rs) : (namesOf rs).Nodup := by
  have z : (Fld.all fun p => decide (namesOf p.2).Nodup) = true := by decide +kernel
  exact of_decide_eq_true (List.all_eq_true.mp z _ (lookMem h))
abbrev sNI : Stmt := inClass (topS 15) 0
abbrev sDef : Stmt := topS 16
abbrev sFO : Stmt := topS 17
theorem scDef : FnScope ["name", "mark"] ["name", "mark"] (defScope sDef) := ⟨rfl, rfl, rfl, by decide +kernel, rfl, by decide +kernel, by decide +kernel⟩
theorem scFO : FnScope ["kind", "row"] ["kind"] (defScope sFO) := ⟨rfl, rfl, rfl, by decide +kernel, rfl, by decide +kernel, by decide +kernel⟩
abbrev nNI : List Str := ["self", "kind", "parts", "more", "names", "missing", "name", "value", "_", "mark"]
theorem scNI : FnScope nNI ["self", "kind", "parts", "more"] (defScope sNI) := ⟨rfl, rfl, rfl, by decide +kernel, rfl, by decide +kernel, by decide +kernel⟩
/-- a statement that is never come to -/
theorem ps_no {X : Cx} {st : Stmt} : PS X st (fun _ _ _ => False) := ⟨fun pins s σ H D I h => h.elim⟩
theorem str_in {K : PySem.W.Frag} : PySem.W.kitOne K (.type "str") (.type "str") = some true := kit_ty (by decide +kernel)
theorem ixt {K : PySem.W.Frag} (X : Cx) (e : X.K = K) : IxR X (rIxT K) := e ▸ ix_tup
theorem ixl {K : PySem.W.Frag} (X : Cx) (e : X.K = K) : IxR X (rIxL K) := e ▸ ix_list
/-- the built-in names that are what they are -/
structure Blt (mg : Str → Option Value) : Prop where
  isI : mg "isinstance" = none
  st : mg "str" = none
  tp : mg "tuple" = none
  ls : mg "list" = none
  ln : mg "len" = none
  zp : mg "zip" = none
  it : mg "int" = none
  bo : mg "bool" = none
  rg : mg "range" = none
  sm : mg "sum" = none
  rp : mg "repr" = none
def spFO : Sp := fun vs H Q _ => ∃ (k : Str) (rs : List (Str × Str × Str)), vs = [.str k] ∧ Fld.lookup k = some rs ∧ ∀ (H' : Hp) (t : Addr), H t = none → Same H H' → H' t = some (.tup ((namesOf rs).map V.str)) → Q (.ref t) H'
section
variable {P : Program} {w : World} {K : PySem.W.Frag} {mg : Str → Option Value} {base : Heap} {aF aA : Addr} {eF : Array DictEntry} {nF : Nat}
theorem Tabs.kd (T : Tabs K w mg aF aA eF nF) {k : Str} {a : Addr} (h : PySem.W.nsIn K aF k = some (some (.ref a))) : KDct K w aF k (.ref a) := ⟨_, _, _, T.dF.at_, T.dF.lit, h, rfl⟩
theorem ok_fo {f : Addr} {fd : FuncData} (F : Fun K "fields_of" "fields_of" sFO f fd) (T : Tabs K w mg aF aA eF nF) (Z : Blt mg) : FnOk P w K mg base CX0 1 f fd ["kind"] spFO := by
  refine F.ok scFO (fun vs H Q E h => ?_) (fun cdv A outer s H vs Q E hr h => ?_)
  · obtain ⟨k, rs, rfl, _⟩ := h
    rfl
  obtain ⟨k, rs, rfl, hk, q⟩ := h
  obtain ⟨a, ha, as, hs, hl, hp⟩ := fldIs_at T.oF hk
  refine ⟨_, pss_cons (ps_if (PW.pt (pw_or (pt_not (pt_val (pe_callB call_isi (by rfl) Z.isI (by decide +kernel) (pa_cons (pv 0) (pa_cons (pe_bltn (v := .ty "str") (by rfl) Z.st (by decide +kernel) rfl) pa_nil)))))
      (pw_or1 (pt_cmpR (op_notIn_kd T.dF) (pv 0) (pe_glob (v := .ref aF) rfl T.mF rfl) (by rfl))))) (pss_one ps_no) pss_nil)
    (pss_one (ps_ret (pe_callTy call_tuple_of (by rfl) Z.tp (by decide +kernel) (pa_cons (pe_lc (own := [("row", 1)]) (g := gName 1) (tt := tYes) rfl scFO.nd (pi_tup (pe_ix ix_kdict (pe_glob (v := .ref aF) rfl T.mF rfl) (pv 0) (fun _ _ => rfl)))
        (blkOk_by (own := [("row", 1)]) (N := ["kind", "row"]) (sc := defScope sFO) (by decide +kernel)) (fun _ _ _ _ _ => pg_name (i := 1) scFO.nd rfl (.inl rfl)) (fun _ _ _ _ _ => pts_nil) (fun _ _ _ _ _ => pe_ix (ixt _ rfl) (pv 1) pe_int (fun _ _ => rfl))) pa_nil)))), ?_⟩
  refine ⟨_, rfl, .str k, .ty "str", _, _, _, rfl, .ty _, .base (.str k), str_in, _, rfl, iteF ?_⟩
  refine ⟨_, rfl, k, _, rfl, rfl, ha, _, rfl, iteF ?_⟩
  refine ⟨_, rfl, aF, k, .ref a, rfl, rfl, T.kd ha, a, rfl, ⟨_, hs H⟩, fun D nD => ?_⟩
  refine lc_tup (K := K) (a := a) (xs := as.map V.ref) (fun i H1 => Same H H1 ∧ H1 D = some (.lst (((namesOf rs).take i).map V.str))) ⟨same_new nD, by rw [upd_same]; rfl⟩ (fun i H1 _ _ => hs H1) ?_ ?_
  · rintro i x H1 hx ⟨s1, h1⟩
    rw [List.getElem?_map] at hx
    cases hb : as[i]? with
    | none => rw [hb] at hx; cases hx
    | some b =>
      rw [hb] at hx
      cases hx
      have hi : i < rs.length := by
        rcases Nat.lt_or_ge i as.length with z | z
        · omega
        · rw [List.getElem?_eq_none z] at hb; cases hb
      have hr' := List.getElem?_eq_getElem hi
      refine ⟨rfl, ?_⟩
      unfold tYes
      refine iteT ?_
      have ln : (((namesOf rs).take i).map V.str).length < sizeLine := by
        have z : (1000 : Nat) < sizeLine := by decide
        have := rows_small hk
        rw [List.length_map, List.length_take]
        omega
      refine ⟨_, rfl, b, _, 0, .str rs[i].1, rfl, rfl, hp i b _ hb hr' H1, rfl, _, h1, ln, ?_⟩
      refine ⟨fun c o e => ?_, ?_⟩
      · rw [upd_ne (ne_of_none e nD)]; exact s1 _ _ e
      · rw [upd_same]
        have e1 : (namesOf rs).take (i + 1) = (namesOf rs).take i ++ [rs[i].1] := by
          unfold namesOf
          rw [← List.map_take, ← List.map_take, List.take_succ, hr', List.map_append]
          rfl
        rw [e1, List.map_append]
        rfl
  · rintro H1 ⟨s1, h1⟩
    have e0 : (as.map V.ref).length = (namesOf rs).length := by unfold namesOf; rw [List.length_map, List.length_map, hl]
    rw [e0, List.take_length] at h1
    refine ⟨D, _, rfl, .inl ⟨SqL.of h1, fun l nl => q _ l (s1.free nl) (s1.trans (same_new nl)) upd_same⟩⟩
end
end Q8

namespace Q8
open PySem PySem.Spec PyProof.Rows L2 StX
theorem putK_new {kvs : List (Key × V)} {k : Key} {v : V} (h : k ∉ kvs.map Prod.fst) : putK kvs k v = kvs ++ [(k, v)] := by
  unfold putK
  rw [if_neg]
  intro z
  obtain ⟨p, hp, e⟩ := List.any_eq_true.mp z
  exact h (List.mem_map.mpr ⟨p, hp, of_decide_eq_true e⟩)
def marks : List Str := ["*", "+", "?*"]
/-- an attribute: what **more has for it, or None -/
def atV (m : List (Key × V)) (x : Str) : V := (valV m (.inr x)).getD .non
def nodeFs (k : Str) (m : List (Key × V)) (d : Addr) : List (Str × V) := [("kind", .str k), ("lineno", atV m "lineno"), ("col_offset", atV m "col_offset"), ("end_lineno", atV m "end_lineno"), ("end_col_offset", atV m "end_col_offset"), ("_fields", .ref d)]
/-- keywords are attributes alone -/
def AllAt (m : List (Key × V)) : Prop := ∀ p ∈ m, ∃ x ∈ attrs, p.1 = (Sum.inr x : Key)
theorem fkv_len {ns : List Str} {vs : List V} (h : vs.length ≤ ns.length) : (fkv ns vs).length = vs.length := by
  unfold fkv
  rw [List.length_zipWith]
  omega
theorem zip_keys : ∀ {ns : List Str} {vs : List V}, ∀ p ∈ fkv ns vs, ∃ n ∈ ns, p.1 = Sum.inr n
  | [], _, p, h => by cases h
  | n :: ns, [], p, h => by cases h
  | n :: ns, v :: vs, p, h => by
    rcases List.mem_cons.mp h with e | h
    · exact ⟨n, List.mem_cons_self .., by rw [e]⟩
    · obtain ⟨m, hm, e⟩ := zip_keys p h
      exact ⟨m, List.mem_cons_of_mem _ hm, e⟩
theorem fkv_snoc {ns : List Str} {vs : List V} {nm : Str} {v : V} (hn : ns.Nodup) (h : ns[vs.length]? = some nm) : putK (fkv ns vs) (.inr nm) v = fkv ns (vs ++ [v]) := by
  obtain ⟨A, B, rfl, hA⟩ : ∃ A B, ns = A ++ nm :: B ∧ A.length = vs.length := by
    have hi : vs.length < ns.length := by
      rcases Nat.lt_or_ge vs.length ns.length with q | q
      · exact q
      · rw [List.getElem?_eq_none q] at h; cases h
    refine ⟨ns.take vs.length, ns.drop (vs.length + 1), ?_, by rw [List.length_take]; omega⟩
    rw [List.getElem?_eq_getElem hi] at h
    cases h
    rw [← List.drop_eq_getElem_cons hi, List.take_append_drop]
  have e1 : fkv (A ++ nm :: B) vs = fkv A vs := by
    have z : fkv (A ++ nm :: B) (vs ++ []) = fkv A vs ++ fkv (nm :: B) [] := List.zipWith_append hA
    rw [List.append_nil] at z
    rw [z]
    exact List.append_nil _
  have e2 : fkv (A ++ nm :: B) (vs ++ [v]) = fkv A vs ++ [(Sum.inr nm, v)] := by
    have z : fkv (A ++ nm :: B) (vs ++ [v]) = fkv A vs ++ fkv (nm :: B) [v] := List.zipWith_append hA
    rw [z]
    cases B <;> rfl
  rw [e1, e2, putK_new]
  intro z
  obtain ⟨p, hp, e⟩ := List.mem_map.mp z
  obtain ⟨m, hm, e'⟩ := zip_keys p hp
  rw [e'] at e
  have e := Sum.inr.inj e
  subst e
  rw [List.nodup_append] at hn
  exact hn.2.2 m hm m (List.mem_cons_self ..) rfl
/-- what a field holds that was not given -/
def DefV (C : Addr) (H H' : Hp) (nm mk : Str) (v : V) : Prop :=
  (mk ∈ marks ∧ ∃ l, v = .ref l ∧ H l = none ∧ H' l = some (.lst [])) ∨ (mk ∉ marks ∧ nm = "ctx" ∧ ∃ p dx d, v = .ref p ∧ H p = none ∧ H d = none ∧ H' p = some (.ins C dx (nodeFs "Load" [] d)) ∧ H' d = some (.dK [])) ∨ (mk ∉ marks ∧ nm ≠ "ctx" ∧ v = .non)
theorem DefV.mono {C : Addr} {H H0 H1 H2 : Hp} {nm mk : Str} {v : V} (h : DefV C H H1 nm mk v) (h0 : ∀ b, H b = none → H0 b = none) (k : ∀ b o, H b = none → H1 b = some o → H2 b = some o) : DefV C H0 H2 nm mk v := by
  rcases h with ⟨a, l, e, n, g⟩ | ⟨a, b, p, dx, d, e, n1, n2, g1, g2⟩ | h
  · exact .inl ⟨a, l, e, h0 _ n, k _ _ n g⟩
  · exact .inr (.inl ⟨a, b, p, dx, d, e, h0 _ n1, h0 _ n2, k _ _ n1 g1, k _ _ n2 g2⟩)
  · exact .inr (.inr h)
/-- what stands at the fields stands apart -/
def Apart (ds : List V) : Prop := ∀ (i j : Nat) (a b : Addr), i < j → ds[i]? = some (.ref a) → ds[j]? = some (.ref b) → a ≠ b
theorem Apart.snoc {ds : List V} {v : V} (h : Apart ds) (k : ∀ (i : Nat) (a b : Addr), ds[i]? = some (.ref a) → v = .ref b → a ≠ b) : Apart (ds ++ [v]) := by
  intro i j a b hij e1 e2
  have lj : j < (ds ++ [v]).length := by
    rcases Nat.lt_or_ge j (ds ++ [v]).length with z | z
    · exact z
    · rw [List.getElem?_eq_none z] at e2; cases e2
  rw [List.length_append, List.length_singleton] at lj
  have hi : i < ds.length := by omega
  rw [List.getElem?_append_left hi] at e1
  by_cases hj : j < ds.length
  · rw [List.getElem?_append_left hj] at e2
    exact h i j a b hij e1 e2
  · have ej : j = ds.length := by omega
    subst ej
    rw [List.getElem?_append_right (Nat.le_refl _), Nat.sub_self] at e2
    exact k i a b e1 (Option.some.inj e2)
theorem DefV.nw {C : Addr} {H H' : Hp} {nm mk : Str} {b : Addr} (h : DefV C H H' nm mk (.ref b)) : H b = none ∧ H' b ≠ none := by
  rcases h with ⟨_, l, e, n, g⟩ | ⟨_, _, p, dx, d, e, n, _, g, _⟩ | ⟨_, _, e⟩
  · cases e
    exact ⟨n, by rw [g]; simp⟩
  · cases e
    exact ⟨n, by rw [g]; simp⟩
  · cases e
/-- a node of the kind k, new behind H -/
structure NewN (C : Addr) (H H' : Hp) (p : Addr) (k : Str) (m : List (Key × V)) (rs : List (Str × Str × Str)) (parts : List V) (d : Addr) (ds : List V) : Prop where
  sm : Same H H'
  np : H p = none
  nd : H d = none
  at_ : ∃ dx, H' p = some (.ins C dx (nodeFs k m d))
  dk : H' d = some (.dK (fkv (namesOf rs) (parts ++ ds)))
  len : (parts ++ ds).length = rs.length
  df : ∀ (i : Nat) v r, ds[i]? = some v → rs[parts.length + i]? = some r → DefV C H H' r.1 r.2.2 v
  ap : Apart ds
/-- Node(kind, *parts) -/
def tNode (n : Nat) (C : Addr) (t : TA) : TE := fun σ H Q => t σ H fun vs H1 => ∃ (k : Str) (rs : List (Str × Str × Str)) (parts : List V), vs = .str k :: parts ∧ Fld.lookup k = some rs ∧ parts.length ≤ rs.length ∧ (n = 1 ∨ rs = []) ∧
  ∀ (H2 : Hp) (p d : Addr) (ds : List V), NewN C H1 H2 p k [] rs parts d ds → Q (.ref p) H2
def spIniB (n : Nat) (C : Addr) : Sp := fun vs H Q _ => ∃ (x dx tp dm : Addr) (m : List (Key × V)) (k : Str) (rs : List (Str × Str × Str)) (parts : List V), vs = [.ref x, .str k, .ref tp, .ref dm] ∧ H x = some (.ins C dx []) ∧ H tp = some (.tup parts) ∧ H dm = some (.dK m) ∧ AllAt m ∧ m.length ≤ 4 ∧
  Fld.lookup k = some rs ∧ parts.length ≤ rs.length ∧ (n = 1 ∨ rs = []) ∧
  ∀ (H' : Hp) (d : Addr) (ds : List V), (∀ b o, b ≠ x → H b = some o → H' b = some o) → H d = none → H' x = some (.ins C dx (nodeFs k m d)) → H' d = some (.dK (fkv (namesOf rs) (parts ++ ds))) → (parts ++ ds).length = rs.length →
    (∀ (i : Nat) v r, ds[i]? = some v → rs[parts.length + i]? = some r → DefV C H H' r.1 r.2.2 v) → Apart ds → Q .non H'
def spIni (n : Nat) (C : Addr) : Sp := fun vs H Q E => ∃ ws rest, vs = ws ++ rest ∧ ws.length = (["self", "kind"] : List Str).length ∧ rest.length ≤ sizeLine ∧ ∀ p d, H p = Option.none → H d = Option.none → d ≠ p → spIniB n C (ws ++ [V.ref p, V.ref d]) (upd (upd H p (.tup rest)) d (.dK [])) Q E
theorem allAt_nil : AllAt [] := fun p hp => by cases hp
theorem spIniB_of {n : Nat} {C x dx tp dm : Addr} {H1 : Hp} {kd : Str} {m : List (Key × V)} {rs : List (Str × Str × Str)} {parts : List V} {Q : VK} {E : XK} (nx : H1 x = none) (ndx : H1 dx = none) (hd : dx ≠ x)
    (nt : (upd (upd H1 dx (.own x)) x (.ins C dx [])) tp = none) (nm : (upd (upd H1 dx (.own x)) x (.ins C dx [])) dm = none) (hm' : dm ≠ tp) (ha : AllAt m) (h4 : m.length ≤ 4) (hk : Fld.lookup kd = some rs) (hl : parts.length ≤ rs.length) (hn : n = 1 ∨ rs = [])
    (q : ∀ (H2 : Hp) (d : Addr) (ds : List V), NewN C H1 H2 x kd m rs parts d ds → Q (.ref x) H2) :
    spIniB n C [.ref x, .str kd, .ref tp, .ref dm] (upd (upd (upd (upd H1 dx (.own x)) x (.ins C dx [])) tp (.tup parts)) dm (.dK m)) (fun v H2 => v = .non ∧ Q (.ref x) H2) E := by
  have ne : ∀ {a b : Addr} {H : Hp} {o : HO}, H a = none → H b = some o → b ≠ a := fun {a b H o} h1 h2 z => by rw [z, h1] at h2; cases h2
  have hx0 : (upd (upd H1 dx (.own x)) x (.ins C dx [])) x = some (.ins C dx []) := upd_same
  have tx : x ≠ tp := ne nt hx0
  have mx : x ≠ dm := ne nm hx0
  refine ⟨x, dx, tp, dm, m, kd, rs, parts, rfl, ?_, ?_, upd_same, ha, h4, hk, hl, hn, fun H' d ds kp nd at_ dk len df ap => ⟨rfl, q H' d ds ⟨?_, nx, ?_, ⟨dx, at_⟩, dk, len, ?_, ap⟩⟩⟩
  · rw [upd_ne mx, upd_ne tx]; exact hx0
  · rw [upd_ne hm'.symm]; exact upd_same
  · intro b o e
    have n1 := ne nx e
    have n2 := ne ndx e
    have e2 : (upd (upd H1 dx (.own x)) x (.ins C dx [])) b = some o := by rw [upd_ne n1, upd_ne n2]; exact e
    refine kp b o n1 ?_
    rw [upd_ne (ne nm e2), upd_ne (ne nt e2)]
    exact e2
  · cases z : H1 d with
    | none => rfl
    | some o =>
      have n1 := ne nx z
      have n2 := ne ndx z
      have e2 : (upd (upd H1 dx (.own x)) x (.ins C dx [])) d = some o := by rw [upd_ne n1, upd_ne n2]; exact z
      rw [upd_ne (ne nm e2), upd_ne (ne nt e2), e2] at nd
      cases nd
  · intro i v r g1 g2
    refine (df i v r g1 g2).mono (fun b hb => ?_) fun b o _ g => g
    cases z : H1 b with
    | none => rfl
    | some o =>
      have n1 := ne nx z
      have n2 := ne ndx z
      have e2 : (upd (upd H1 dx (.own x)) x (.ins C dx [])) b = some o := by rw [upd_ne n1, upd_ne n2]; exact z
      rw [upd_ne (ne nm e2), upd_ne (ne nt e2), e2] at hb
      cases hb
theorem pe_node {X : Cx} {n k : Nat} {C f : Addr} {e : Expr} {es : List Expr} {t : TA} {p pos : Pos} (M : Mk X.K C f) (F : FnR X.prog X.w X.K X.mg X.base CX0 k f (spIni n C)) (hr : Room (k + 1) X.A) (hg : Gl X "Node") (hm : X.mg "Node" = some (.ref C)) (ha : PA X (e :: es) t)
    (he : starEach (e :: es) X.env = (false, eval e X.env) :: starEach es X.env := by rfl) (hpl : (backTo pos (starEach es X.env)).any (·.1) = false := by rfl) : PE X (.Call (.Name "Node" p) (e :: es) [] pos) (tNode n C t) := by
  refine ⟨fun pins s σ H Q I h => ?_⟩
  refine wpAny_Call_Name_kw (ld_glob I hg hm ?_ (by decide))
  refine PySem.W.callWith_K (h₀ := X.base) I.ok.mod.kin M.kp (thn (ha.run pos pins s σ H _ I h) fun us s1 ⟨vs, H1, I1, r, q⟩ => ⟨I1.kIn, ?_⟩) he hpl
  obtain ⟨kd, rs, parts, rfl, hk, hl, hn, q⟩ := q
  refine run_makeR (E := E0) M F hr pass0 I1 r fun x dx nx ndx hd => ⟨[.ref x, .str kd], parts, rfl, rfl, ?_, fun tp dm nt nm hm' => ?_⟩
  · have := rows_small hk
    have z : (1000 : Nat) < sizeLine := by decide
    omega
  exact spIniB_of nx ndx hd nt nm hm' allAt_nil (Nat.zero_le 4) hk hl hn fun H2 d ds N => q H2 x d ds N
/-- Node(kind, *parts, **more) -/
def spIniK (n : Nat) (C : Addr) (ks : List Str) : List V → List V → Hp → VK → XK → Prop := fun vs zs H Q E => ∃ ws rest, vs = ws ++ rest ∧ ws.length = (["self", "kind"] : List Str).length ∧ rest.length ≤ sizeLine ∧ ∀ p d, H p = Option.none → H d = Option.none → d ≠ p → spIniB n C (ws ++ [V.ref p, V.ref d]) (upd (upd H p (.tup rest)) d (.dK (fkv ks zs))) Q E
theorem run_makeRK {X : Cx} {CX : CXT} {k : Nat} {f C : Addr} {ks : List Str} {sp : List V → List V → Hp → VK → XK → Prop} {E : XK} {pins : List (Addr × Obj)} {σ : L2.St} {H : Hp} {s : Shared} {Q : VK} {us ws : List Value} {vs zs : List V} (M : Mk X.K C f) (F : FnRK X.prog X.w X.K X.mg X.base CX k f ks sp)
    (hr : Room (k + 1) X.A) (hx : Passes CX X E) (I : Inv X pins σ H s) (r : Vals vs us) (rz : Vals zs ws) (l2 : zs.length = ks.length)
    (h : ∀ x dx, H x = Option.none → H dx = Option.none → dx ≠ x → sp (V.ref x :: vs) zs (upd (upd H dx (.own x)) x (.ins C dx [])) (fun v H2 => v = .non ∧ Q (.ref x) H2) E) :
    wpAny (model X.prog X.w) X.A (call (.ref C) us (ks.zip ws)) (EP X pins σ Q) X.xe s := by
  have hq := h (s.heap.objs.size + 1) s.heap.objs.size (I.hok.fresh (Nat.le_succ _)) (I.hok.fresh (Nat.le_refl _)) (Nat.ne_of_lt (Nat.lt_succ_self _))
  have I2 := Inv.made (C := C) I
  have r2 : Vals (V.ref (s.heap.objs.size + 1) :: vs) (Value.ref (s.heap.objs.size + 1) :: us) := .cons rfl r
  refine wpAny_call (make_map (f := f) I.kIn M.makes M.init (beq_iff_eq.mp M.fn) (codeAny_mono (F _ X.stack _ _ (Value.ref (s.heap.objs.size + 1) :: us) ws _ _ _ E (hr.make C us (ks.zip ws)) (I2.env0.make C us (ks.zip ws)) r2 rz (rz.length.symm.trans l2) hq) fun r s' hq' => ?_))
  cases r with
  | error e => exact hx pins σ _ _ e s' I2 hq'
  | ok fl =>
    cases fl with
    | ret u =>
      obtain ⟨v, H', I3, rv, ev, q3⟩ := I2.after hq'
      subst ev
      exact ⟨rv, ⟨V.ref (s.heap.objs.size + 1), H', I3, rfl, q3⟩⟩
    | next => exact False.elim hq'
    | brk => exact False.elim hq'
    | cont => exact False.elim hq'
theorem fkv_at {zs : List V} : ∀ {ks : List Str}, (∀ x ∈ ks, x ∈ attrs) → AllAt (fkv ks zs) := fun {ks} h p hp => by
  obtain ⟨x, hx, e⟩ := zip_keys p hp
  exact ⟨x, h x hx, e⟩
def tNodeK (n : Nat) (C : Addr) (ks : List Str) (t tk : TA) : TE := fun σ H Q => t σ H fun vs H1 => tk σ H1 fun zs H2 => ∃ (k : Str) (rs : List (Str × Str × Str)) (parts : List V), vs = .str k :: parts ∧ zs.length = ks.length ∧ Fld.lookup k = some rs ∧ parts.length ≤ rs.length ∧ (n = 1 ∨ rs = []) ∧
  ∀ (H3 : Hp) (p d : Addr) (ds : List V), NewN C H2 H3 p k (fkv ks zs) rs parts d ds → Q (.ref p) H3
theorem pe_nodeK {X : Cx} {n k : Nat} {C f : Addr} {ks : List Str} {e : Expr} {es : List Expr} {kws : List Keyword} {t tk : TA} {p pos : Pos} (M : Mk X.K C f) (F : FnRK X.prog X.w X.K X.mg X.base CX0 k f ks (spIniK n C ks)) (hr : Room (k + 1) X.A) (hg : Gl X "Node") (hm : X.mg "Node" = some (.ref C)) (ha : PA X (e :: es) t) (hkw : PK X kws tk)
    (hat : ∀ x ∈ ks, x ∈ attrs) (h4 : ks.length ≤ 4)
    (hall : (backToKw pos (keywordEach kws X.env)).all (·.1.isSome) = true := by rfl) (hks : (backToKw pos (keywordEach kws X.env)).filterMap (·.1) = ks := by rfl)
    (he : starEach (e :: es) X.env = (false, eval e X.env) :: starEach es X.env := by rfl) (hpl : ((backTo pos (starEach (e :: es) X.env)).any (·.1) || (backToKw pos (keywordEach kws X.env)).any (·.1.isNone)) = false := by rfl) :
    PE X (.Call (.Name "Node" p) (e :: es) kws pos) (tNodeK n C ks t tk) := by
  refine ⟨fun pins s σ H Q I h => ?_⟩
  refine wpAny_Call_Name_kw (ld_glob I hg hm ?_ (by decide))
  refine PySem.W.callWith_KW (h₀ := X.base) I.ok.mod.kin M.kp hall (thn (ha.run pos pins s σ H _ I h) fun us s1 ⟨vs, H1, I1, r, q⟩ => ?_) hpl he
  refine thn (hkw.run pos pins s1 σ H1 _ I1 q) fun ws s2 ⟨zs, H2, I2, rz, q2⟩ => ⟨I2.kIn, ?_⟩
  obtain ⟨kd, rs, parts, rfl, lz, hk, hl, hn, q⟩ := q2
  rw [hks]
  refine run_makeRK (E := E0) M F hr pass0 I2 r rz lz fun x dx nx ndx hd => ⟨[.ref x, .str kd], parts, rfl, rfl, ?_, fun tp dm nt nm hm' => ?_⟩
  · have := rows_small hk
    have z : (1000 : Nat) < sizeLine := by decide
    omega
  have l4 : (fkv ks zs).length ≤ 4 := by unfold fkv; rw [List.length_zipWith]; omega
  exact spIniB_of nx ndx hd nt nm hm' (fkv_at hat) l4 hk hl hn fun H3 d ds N => q H3 x d ds N
end Q8

namespace Q8
open PySem PySem.Spec PyProof.Rows L2 StX
def spDef (n : Nat) (C : Addr) : Sp := fun vs H Q _ => ∃ nm mk : Str, vs = [.str nm, .str mk] ∧ n = 1 ∧ ∀ (H' : Hp) (v : V), Same H H' → DefV C H H' nm mk v → Q v H'
section
variable {P : Program} {w : World} {K : PySem.W.Frag} {mg : Str → Option Value} {base : Heap} {aF aM C fI : Addr} {eF : Array DictEntry} {nF : Nat}
theorem no_def {f : Addr} {fd : FuncData} {k : Nat} : FnOk P w K mg base CX0 k f fd ["name", "mark"] (spDef 0 C) := by
  have no : ∀ vs H Q E, ¬ spDef 0 C vs H Q E := fun vs H Q E h => by
    obtain ⟨nm, mk, _, h1, _⟩ := h
    omega
  exact ⟨fun vs H Q E h => absurd h (no vs H Q E), fun A outer s H args us vs Q E _ _ _ _ h => absurd h (no vs H Q E)⟩
theorem marks_flat : (marks.map V.str).all flatV = true := by decide +kernel
theorem marks_in (mk : Str) : inV (.str mk) (marks.map V.str) = decide (mk ∈ marks) := by
  by_cases h : mk ∈ marks
  · rw [decide_eq_true h]
    unfold marks at h
    rcases List.mem_cons.mp h with rfl | h
    · decide +kernel
    rcases List.mem_cons.mp h with rfl | h
    · decide +kernel
    rcases List.mem_cons.mp h with rfl | h
    · decide +kernel
    cases h
  · rw [decide_eq_false h]
    unfold inV
    rw [List.any_eq_false]
    intro x hx
    obtain ⟨y, hy, rfl⟩ := List.mem_map.mp hx
    have ne : y ≠ mk := fun z => h (z ▸ hy)
    unfold eqV
    simp [ne, Ne.symm ne]
theorem ld : Fld.lookup ("Load" : Str) = some [] := by decide +kernel
theorem ok_def {f : Addr} {fd : FuncData} (F : Fun K "_default" "_default" sDef f fd) (mM : mg "LIST_MARKS" = some (.ref aM)) (hM : ∀ H, SqT K H aM (marks.map V.str)) (M : Mk K C fI) (mN : mg "Node" = some (.ref C))
    {k : Nat} (N0 : FnR P w K mg base CX0 k fI (spIni 0 C)) : FnOk P w K mg base CX0 (k + 2) f fd ["name", "mark"] (spDef 1 C) := by
  refine F.ok scDef (fun vs H Q E h => ?_) (fun cdv A outer s H vs Q E hr h => ?_)
  · obtain ⟨nm, mk, rfl, _⟩ := h
    rfl
  obtain ⟨nm, mk, rfl, _, q⟩ := h
  refine ⟨_, pss_cons (ps_if (pt_cmpR op_in_seq (pv 1) (pe_glob (v := .ref aM) rfl mM rfl) (by rfl)) (pss_one (ps_ret (pe_lst pa_nil))) pss_nil)
    (pss_cons (ps_if (pt_cmpR op_eq (pv 0) pe_str (nomark _)) (pss_one (ps_ret (pe_node M N0 hr rfl mN (pa_cons pe_str pa_nil)))) pss_nil)
    (pss_one (ps_ret pe_non))), ?_⟩
  refine ⟨_, rfl, aM, _, rfl, .inr (hM H), rfl, marks_flat, _, rfl, ?_⟩
  rw [if_neg (by decide), marks_in]
  by_cases hm : mk ∈ marks
  · rw [decide_eq_true hm]
    refine iteT ?_
    refine ⟨Nat.zero_le _, fun l nl => q _ _ (same_new nl) (.inl ⟨hm, l, rfl, nl, upd_same⟩)⟩
  · rw [decide_eq_false hm]
    refine iteF ?_
    refine ⟨_, rfl, rfl, _, rfl, ?_⟩
    refine ite2 (fun c => ?_) (fun c => ?_)
    · have c : nm = "ctx" := V.str.inj (of_decide_eq_true c)
      refine ⟨"Load", [], [], rfl, ld, Nat.le_refl 0, .inr rfl, fun H2 p d ds N => ?_⟩
      obtain ⟨dx, hp⟩ := N.at_
      have hd := N.dk
      exact q H2 _ N.sm (.inr (.inl ⟨hm, c, p, dx, d, rfl, N.np, N.nd, hp, hd⟩))
    · have c : ¬ nm = "ctx" := by simpa using c
      exact q H _ (Same.refl H) (.inr (.inr ⟨hm, c, rfl⟩))
end
end Q8

namespace Q8
open PySem PySem.Spec PyProof.Rows L2 StX RZ
theorem sl_from {K : PySem.W.Frag} {H : Hp} {a : Addr} {xs : List V} {n : Nat} {Q : VK} (h : SqT K H a xs) (hn : n ≤ xs.length) (q : ∀ p H', Same H H' → SqT K H' p (xs.drop n) → Q (.ref p) H') : rSlA K (.ref a) (some (n : Int)) none H Q := by
  refine ⟨a, xs, rfl, h, fun z => ?_, fun _ p np => ?_⟩
  · rw [HT.sIx_nat] at z
    have e : n = 0 ∨ xs = [] := by
      rcases Nat.eq_zero_or_pos n with e | e
      · exact .inl e
      · right
        have : xs.length = 0 := by omega
        exact List.eq_nil_of_length_eq_zero this
    refine q a H (Same.refl H) ?_
    rcases e with e | e
    · rw [e, List.drop_zero]; exact h
    · rw [e, List.drop_nil]; rw [e] at h; exact h
  · refine q p _ (same_new np) (SqT.of ?_)
    rw [upd_same]
    have e : cutV xs (some (n : Int)) none = xs.drop n := by
      unfold cutV
      rw [HT.sIx_nat, HT.sIx_none, Nat.min_eq_left hn]
      exact List.take_of_length_le (by rw [List.length_drop]; omega)
    rw [e]
structure NodeF (K : PySem.W.Frag) (C : Addr) : Prop where
  cl : Cls K C
  n1 : NoAttr K C "kind"
  n2 : NoAttr K C "lineno"
  n3 : NoAttr K C "col_offset"
  n4 : NoAttr K C "end_lineno"
  n5 : NoAttr K C "end_col_offset"
  n6 : NoAttr K C "_fields"
theorem walk_zipT {K : PySem.W.Frag} {a b : Addr} {xs ys : List V} {n : Nat} (hn : n = min xs.length ys.length) : Walk (ItzT K a b) n (fun H => SqT K H a xs ∧ SqT K H b ys) (YPair (fun i => xs[i]?) (fun i => ys[i]?)) := by
  refine ⟨fun i H hi q => ⟨xs, ys, xs[i]'(by omega), ys[i]'(by omega), q.1, q.2, by simp, by simp⟩, fun H q => ⟨xs, ys, q.1, q.2, by omega⟩, fun i H x H' _ q y => ?_⟩
  obtain ⟨T, x', y', h1, h2, h3, h4, h5⟩ := y
  exact ⟨T, x', y', h1, h2, h3, h4 xs q.1, h5 ys q.2⟩
theorem putF_new {f : Str} {v : V} : ∀ {fs : List (Str × V)}, f ∉ fs.map Prod.fst → putF f v fs = fs ++ [(f, v)]
  | [], _ => rfl
  | (g, x) :: r, h => by
    have ne : g ≠ f := fun z => h (by rw [z]; exact List.mem_cons_self ..)
    show (if g = f then _ else _) = _
    rw [if_neg ne, putF_new (fs := r) (fun z => h (List.mem_cons_of_mem _ z))]
    rfl
def nf1 (k : Str) : List (Str × V) := [("kind", .str k)]
def nf2 (k : Str) (m : List (Key × V)) : List (Str × V) := [("kind", .str k), ("lineno", atV m "lineno")]
def nf3 (k : Str) (m : List (Key × V)) : List (Str × V) := [("kind", .str k), ("lineno", atV m "lineno"), ("col_offset", atV m "col_offset")]
def nf4 (k : Str) (m : List (Key × V)) : List (Str × V) := [("kind", .str k), ("lineno", atV m "lineno"), ("col_offset", atV m "col_offset"), ("end_lineno", atV m "end_lineno")]
def nf5 (k : Str) (m : List (Key × V)) : List (Str × V) := [("kind", .str k), ("lineno", atV m "lineno"), ("col_offset", atV m "col_offset"), ("end_lineno", atV m "end_lineno"), ("end_col_offset", atV m "end_col_offset")]
theorem nf1_put (k : Str) (m : List (Key × V)) : putF "lineno" (atV m "lineno") (nf1 k) = nf2 k m := putF_new (by show ("lineno" : Str) ∉ (["kind"] : List Str); decide +kernel)
theorem nf2_put (k : Str) (m : List (Key × V)) : putF "col_offset" (atV m "col_offset") (nf2 k m) = nf3 k m := putF_new (by show ("col_offset" : Str) ∉ (["kind", "lineno"] : List Str); decide +kernel)
theorem nf3_put (k : Str) (m : List (Key × V)) : putF "end_lineno" (atV m "end_lineno") (nf3 k m) = nf4 k m := putF_new (by show ("end_lineno" : Str) ∉ (["kind", "lineno", "col_offset"] : List Str); decide +kernel)
theorem nf4_put (k : Str) (m : List (Key × V)) : putF "end_col_offset" (atV m "end_col_offset") (nf4 k m) = nf5 k m := putF_new (by show ("end_col_offset" : Str) ∉ (["kind", "lineno", "col_offset", "end_lineno"] : List Str); decide +kernel)
theorem nf5_put (k : Str) (m : List (Key × V)) (d : Addr) : putF "_fields" (V.ref d) (nf5 k m) = nodeFs k m d := putF_new (by show ("_fields" : Str) ∉ (["kind", "lineno", "col_offset", "end_lineno", "end_col_offset"] : List Str); decide +kernel)
/-- while a node is made: its attributes fs so far -/
structure Ini (H : Hp) (C x dx tp dm tn : Addr) (m : List (Key × V)) (parts : List V) (ns : List Str) (fs : List (Str × V)) (H5 : Hp) : Prop where
  kp : ∀ b o, b ≠ x → H b = some o → H5 b = some o
  hx : H5 x = some (.ins C dx fs)
  htp : H5 tp = some (.tup parts)
  hdm : H5 dm = some (.dK m)
  htn : H5 tn = some (.tup (ns.map V.str))
theorem Ini.fld {H H5 : Hp} {C x dx tp dm tn : Addr} {m : List (Key × V)} {parts : List V} {ns : List Str} {fs fs' : List (Str × V)} (I : Ini H C x dx tp dm tn m parts ns fs H5) : Ini H C x dx tp dm tn m parts ns fs' (upd H5 x (.ins C dx fs')) := by
  have n1 : tp ≠ x := fun z => by have := I.htp; rw [z, I.hx] at this; cases this
  have n2 : dm ≠ x := fun z => by have := I.hdm; rw [z, I.hx] at this; cases this
  have n3 : tn ≠ x := fun z => by have := I.htn; rw [z, I.hx] at this; cases this
  exact ⟨fun b o n e => by rw [upd_ne n]; exact I.kp b o n e, upd_same, by rw [upd_ne n1]; exact I.htp, by rw [upd_ne n2]; exact I.hdm, by rw [upd_ne n3]; exact I.htn⟩
theorem Ini.up {H H5 H6 : Hp} {C x dx tp dm tn : Addr} {m : List (Key × V)} {parts : List V} {ns : List Str} {fs : List (Str × V)} (I : Ini H C x dx tp dm tn m parts ns fs H5) (s : Same H5 H6) : Ini H C x dx tp dm tn m parts ns fs H6 :=
  ⟨fun b o n e => s _ _ (I.kp b o n e), s _ _ I.hx, s _ _ I.htp, s _ _ I.hdm, s _ _ I.htn⟩
theorem strs_flat : ∀ xs : List V, (∀ v ∈ xs, ∃ y, v = V.str y) → xs.all flatV = true := fun xs h => by
  rw [List.all_eq_true]
  intro v hv
  obtain ⟨y, rfl⟩ := h v hv
  rfl
theorem inV_strs {x : Str} (h : x ∈ attrs) : inV (.str x) (attrs.map V.str) = true := by
  unfold attrs at h
  rcases List.mem_cons.mp h with rfl | h
  · decide +kernel
  rcases List.mem_cons.mp h with rfl | h
  · decide +kernel
  rcases List.mem_cons.mp h with rfl | h
  · decide +kernel
  rcases List.mem_cons.mp h with rfl | h
  · decide +kernel
  cases h
theorem row_at {k : Str} {rs : List (Str × Str × Str)} (h : Fld.lookup k = some rs) {r : Str × Str × Str} (hr : r ∈ rs) : r.1 ∉ attrs := by
  have z : (Fld.all fun p => p.2.all fun r => !attrs.contains r.1) = true := by decide +kernel
  have z1 := List.all_eq_true.mp (List.all_eq_true.mp z _ (lookMem h)) r hr
  intro hm
  have z2 : attrs.contains r.1 = true := List.contains_iff_mem.mpr hm
  rw [z2] at z1
  cases z1
theorem not_at {m : List (Key × V)} {x : Str} (hm : AllAt m) (hx : x ∉ attrs) : valV m (Sum.inr x) = none := by
  unfold valV
  have : (m.find? fun kv => decide (kv.1 = (Sum.inr x : Key))) = none := by
    rw [List.find?_eq_none]
    intro p hp z
    obtain ⟨y, hy, e⟩ := hm p hp
    have e2 := of_decide_eq_true z
    rw [e] at e2
    exact hx (Sum.inr.inj e2 ▸ hy)
  rw [this]
  rfl
section
variable {P : Program} {w : World} {K : PySem.W.Frag} {mg : Str → Option Value} {base : Heap} {aF aA C : Addr} {eF : Array DictEntry} {nF : Nat}
theorem ini_core {f fO fD : Addr} {dO dD : FuncData} (T : Tabs K w mg aF aA eF nF) (Z : Blt mg) (N : NodeF K C)
    (O : FnOk P w K mg base CX0 1 fO dO ["kind"] spFO) (bO : Binds K dO ["kind"] []) (kO : PySem.W.keepIn K (.ref fO) = true) (mO : mg "fields_of" = some (.ref fO))
    (bD : Binds K dD ["name", "mark"] []) (kD : PySem.W.keepIn K (.ref fD) = true) (mD : mg "_default" = some (.ref fD)) {n k : Nat} (hk1 : 1 ≤ k) (D : FnOk P w K mg base CX0 k fD dD ["name", "mark"] (spDef n C))
    {cdv : Value} (A : Around) (outer : List Env) (s : Shared) (H : Hp) (vs : List V) (Q : VK) (E : XK) (hr : Room k (A.deeper (envOfC "Node.__init__" (defScope sNI) s.heap.objs.size f cdv))) (h : spIniB n C vs H Q E) :
    ∃ t, PSs (cxOf CX0 P w K mg base nNI "Node.__init__" (defScope sNI) f cdv A outer s H E) (defBody sNI) t ∧ t { nx := fun _ H' => Q .non H', rt := Q } (start nNI vs) H := by
  have hr1 := hr.mono hk1
  obtain ⟨x, dx, tp, dm, m, kd, rs, parts, rfl, hx, htp, hdm, hm, h4, hk, hl, hn, q⟩ := h
  have main : ∃ t, PSs (cxOf CX0 P w K mg base nNI "Node.__init__" (defScope sNI) f cdv A outer s H E).nox (defBody sNI) t ∧ t { nx := fun _ H' => Q .non H', rt := Q } (start nNI [.ref x, .str kd, .ref tp, .ref dm]) H := by
    refine ⟨_, pss_cons (ps_set (i := 4) scNI.nd rfl (.inl rfl) (pe_call O hr1 rfl mO kO bO .nil pass0 (pa_cons (pv 1) pa_nil)))
      (pss_cons (ps_if (pt_cmpR op_gt (pe_callB call_len_seq rfl Z.ln PySem.boot_len (pa_cons (pv 2) pa_nil)) (pe_callB call_len_seq rfl Z.ln PySem.boot_len (pa_cons (pv 4) pa_nil)) (nomark _)) (pss_one ps_no) pss_nil)
      (pss_cons (ps_set (i := 5) scNI.nd rfl (.inl rfl) (pe_slice sl_tupA (pv 4) (po_some (pe_callB call_len_seq rfl Z.ln PySem.boot_len (pa_cons (pv 2) pa_nil))) po_none))
      (pss_cons (ps_lock (ps_for PassesOwn.never rfl (pi_keys (pv 3)) (pg_name (i := 6) scNI.nd rfl (.inl rfl)) (pss_one (ps_if (PW.pt (pw_and (pt_cmpR op_notIn_seq (pv 6) (pv 5) (by rfl)) (pw_and1 (pt_cmpR op_notIn_seq (pv 6) (pe_glob (v := .ref aA) rfl T.mA rfl) (by rfl))))) (pss_one ps_no) pss_nil))))
      (pss_cons (ps_fld (pv 0) (pv 1) rfl)
      (pss_cons (ps_fld (pv 0) (pe_dget1 (hu_of hr) (pv 3) pe_str ⟨rfl, rfl, rfl, rfl⟩) rfl)
      (pss_cons (ps_fld (pv 0) (pe_dget1 (hu_of hr) (pv 3) pe_str ⟨rfl, rfl, rfl, rfl⟩) rfl)
      (pss_cons (ps_fld (pv 0) (pe_dget1 (hu_of hr) (pv 3) pe_str ⟨rfl, rfl, rfl, rfl⟩) rfl)
      (pss_cons (ps_fld (pv 0) (pe_dget1 (hu_of hr) (pv 3) pe_str ⟨rfl, rfl, rfl, rfl⟩) rfl)
      (pss_cons (ps_fld (pv 0) pe_dnewK rfl)
      (pss_cons (ps_for PassesOwn.never rfl (pi_zipA rfl Z.zp (pa_cons (pv 4) (pa_cons (pv 2) pa_nil))) (pg_tup rfl (pgs_cons (pg_name (i := 6) scNI.nd rfl (.inl rfl)) (pgs_cons (pg_name (i := 7) scNI.nd rfl (.inl rfl)) pgs_nil)))
          (pss_one (ps_dput (hu_of hr) (pe_fld (pv 0) rfl) (pv 6) (pv 7) (by rfl))))
      (pss_one (ps_for PassesOwn.never rfl (pi_tup (pe_slice sl_tupA (pe_ix ix_kdict (pe_glob (v := .ref aF) rfl T.mF rfl) (pv 1) (fun _ _ => rfl)) (po_some (pe_callB call_len_seq rfl Z.ln PySem.boot_len (pa_cons (pv 2) pa_nil))) po_none))
          (pg_tup rfl (pgs_cons (pg_name (i := 6) scNI.nd rfl (.inl rfl)) (pgs_cons (pg_name (i := 8) scNI.nd rfl (.inl rfl)) (pgs_cons (pg_name (i := 9) scNI.nd rfl (.inl rfl)) pgs_nil))))
          (pss_one (ps_dput (hu_of hr) (pe_fld (pv 0) rfl) (pv 6) (pe_ifExp (pt_cmp (pc_din (hu_of hr) (pv 6) (pv 3))) (pe_dget (hu_of hr) (pv 3) (pv 6) (fun _ _ => rfl))
            (pe_call D hr rfl mD kD bD .nil pass0 (pa_cons (pv 6) (pa_cons (pv 9) pa_nil)))) (by rfl))))))))))))))), ?_⟩
    refine ⟨_, rfl, kd, rs, rfl, hk, fun H1 tn ntn s1 htn => ?_⟩
    have hx1 := s1 _ _ hx
    have htp1 := s1 _ _ htp
    have hdm1 := s1 _ _ hdm
    have fr1 : ∀ b o, H b = some o → H1 b = some o := s1
    refine ⟨_, rfl, tp, _, rfl, .inr (SqT.of htp1), _, rfl, tn, _, rfl, .inr (SqT.of htn), _, _, rfl, rfl, _, rfl, ?_⟩
    have hnl : (namesOf rs).length = rs.length := by unfold namesOf; rw [List.length_map]
    refine ite2 (fun c => ?_) (fun _ => ?_)
    · have c := of_decide_eq_true c
      rw [List.length_map, hnl] at c
      omega
    refine ⟨_, rfl, _, rfl, tp, _, rfl, .inr (SqT.of htp1), _, rfl, ?_⟩
    dsimp only [tNoPart]
    refine sl_from (K := K) (SqT.of htn) (by rw [List.length_map, hnl]; exact hl) fun pm H2 s2 hpm => ?_
    have I2 : Ini H C x dx tp dm tn m parts (namesOf rs) [] H2 := ⟨fun b o _ e => s2 _ _ (s1 _ _ e), s2 _ _ hx1, s2 _ _ htp1, s2 _ _ hdm1, s2 _ _ htn⟩
    refine ⟨dm, .dK m, I2.hdm, trivial, fun od => ?_⟩
    refine ⟨_, rfl, dm, od, rfl, .inl ⟨m, upd_same, ?_⟩⟩
    have hpm' : SqT K (upd H2 dm (.frz od (.dK m))) pm (((namesOf rs).map V.str).drop parts.length) := by
      rcases hpm with (h | ⟨o, h⟩) | h
      · exact .inl (.inl (by rw [upd_ne (fun z => by rw [z, I2.hdm] at h; cases h)]; exact h))
      · exact .inl (.inr ⟨o, by rw [upd_ne (fun z => by rw [z, I2.hdm] at h; cases h)]; exact h⟩)
      · exact .inr h
    refine for_it (g := gName 6) walk_keys (fun j σ H7 => ∃ x6, σ = [some (.ref x), some (.str kd), some (.ref tp), some (.ref dm), some (.ref tn), some (.ref pm), x6, none, none, none] ∧ H7 = upd H2 dm (.frz od (.dK m))) ⟨none, rfl, rfl⟩ (fun j σ H7 _ ⟨_, _, e⟩ => by rw [e]; exact upd_same) ?_ ?_
    · rintro j v σ H7 H8 hj ⟨x6, rfl, rfl⟩ ⟨rfl, ky, v', hkv, rfl⟩
      obtain ⟨nm, hnm, rfl⟩ : ∃ nm ∈ attrs, ky = Sum.inr nm := hm _ (List.mem_of_getElem? hkv)
      have fin : ∃ x6', [some (V.ref x), some (V.str kd), some (V.ref tp), some (V.ref dm), some (V.ref tn), some (V.ref pm), some (V.str nm), none, none, none] = [some (V.ref x), some (V.str kd), some (V.ref tp), some (V.ref dm), some (V.ref tn), some (V.ref pm), x6', none, none, none] ∧ upd H2 dm (.frz od (.dK m)) = upd H2 dm (.frz od (.dK m)) := ⟨_, rfl, rfl⟩
      refine ⟨_, rfl, _, rfl, pm, _, rfl, .inr hpm', rfl, strs_flat _ fun v hv => ?_, _, rfl, ?_⟩
      · obtain ⟨y, _, rfl⟩ := List.mem_map.mp (List.mem_of_mem_drop hv)
        exact ⟨y, rfl⟩
      cases inV (kV (Sum.inr nm)) (((namesOf rs).map V.str).drop parts.length) with
      | true =>
        refine ite2 (fun c => by cases c) (fun _ => ?_)
        refine ite2 (fun c => by cases c) (fun _ => ?_)
        exact fin
      | false =>
        refine iteT ?_
        refine ⟨_, rfl, aA, _, rfl, .inr (T.oA _), rfl, strs_flat _ fun v hv => ?_, _, rfl, ?_⟩
        · obtain ⟨y, _, rfl⟩ := List.mem_map.mp hv
          exact ⟨y, rfl⟩
        rw [show inV (kV (Sum.inr nm)) (attrs.map V.str) = true from inV_strs hnm]
        refine ite2 (fun c => by cases c) (fun _ => ?_)
        exact fin
    rintro σ H7 ⟨y6, rfl, rfl⟩
    refine ⟨upd_same, ?_⟩
    have s3 : Same H2 (upd (upd H2 dm (.frz od (.dK m))) dm (.dK m)) := fun b o e => by
      by_cases hb : b = dm
      · rw [hb, upd_same]
        rw [hb, I2.hdm] at e
        exact e
      · rw [upd_ne hb, upd_ne hb]; exact e
    have I3 := I2.up s3
    generalize upd (upd H2 dm (.frz od (.dK m))) dm (.dK m) = H3 at I3
    refine ⟨_, rfl, _, rfl, x, C, dx, _, rfl, I3.hx, N.cl, N.n1, by show 0 < 1000; decide, ?_⟩
    have I4 := I3.fld (fs' := nf1 kd)
    rw [show putF "kind" (V.str kd) [] = nf1 kd from rfl]
    generalize upd H3 x (.ins C dx (nf1 kd)) = H4 at I4
    refine ⟨_, rfl, dm, rfl, .inl ⟨_, Rd.of I4.hdm⟩, _, DGet.k (k := Sum.inr "lineno") I4.hdm, _, rfl, x, C, dx, _, rfl, I4.hx, N.cl, N.n2, by show 1 < 1000; decide, ?_⟩
    rw [show ((valV m (Sum.inr "lineno")).getD V.non) = atV m "lineno" from rfl, nf1_put]
    have I5 := I4.fld (fs' := nf2 kd m)
    generalize upd H4 x (.ins C dx (nf2 kd m)) = H5 at I5
    refine ⟨_, rfl, dm, rfl, .inl ⟨_, Rd.of I5.hdm⟩, _, DGet.k (k := Sum.inr "col_offset") I5.hdm, _, rfl, x, C, dx, _, rfl, I5.hx, N.cl, N.n3, by show 2 < 1000; decide, ?_⟩
    rw [show ((valV m (Sum.inr "col_offset")).getD V.non) = atV m "col_offset" from rfl, nf2_put]
    have I6 := I5.fld (fs' := nf3 kd m)
    generalize upd H5 x (.ins C dx (nf3 kd m)) = H6 at I6
    refine ⟨_, rfl, dm, rfl, .inl ⟨_, Rd.of I6.hdm⟩, _, DGet.k (k := Sum.inr "end_lineno") I6.hdm, _, rfl, x, C, dx, _, rfl, I6.hx, N.cl, N.n4, by show 3 < 1000; decide, ?_⟩
    rw [show ((valV m (Sum.inr "end_lineno")).getD V.non) = atV m "end_lineno" from rfl, nf3_put]
    have I7 := I6.fld (fs' := nf4 kd m)
    generalize upd H6 x (.ins C dx (nf4 kd m)) = H7 at I7
    refine ⟨_, rfl, dm, rfl, .inl ⟨_, Rd.of I7.hdm⟩, _, DGet.k (k := Sum.inr "end_col_offset") I7.hdm, _, rfl, x, C, dx, _, rfl, I7.hx, N.cl, N.n5, by show 4 < 1000; decide, ?_⟩
    rw [show ((valV m (Sum.inr "end_col_offset")).getD V.non) = atV m "end_col_offset" from rfl, nf4_put]
    have I8 := I7.fld (fs' := nf5 kd m)
    generalize upd H7 x (.ins C dx (nf5 kd m)) = H8 at I8
    refine fun d nd => ⟨_, rfl, x, C, dx, _, rfl, (I8.up (same_new nd)).hx, N.cl, N.n6, by show 5 < 1000; decide, ?_⟩
    rw [nf5_put]
    have I9 := (I8.up (same_new (o := .dK []) nd)).fld (fs' := nodeFs kd m d)
    have xd : d ≠ x := fun z => by rw [z, I8.hx] at nd; cases nd
    have hd9 : (upd (upd H8 d (.dK [])) x (.ins C dx (nodeFs kd m d))) d = some (.dK []) := by rw [upd_ne xd]; exact upd_same
    generalize upd (upd H8 d (.dK [])) x (.ins C dx (nodeFs kd m d)) = H9 at I9 hd9
    have ndH : H d = none := by
      cases z : H d with
      | none => rfl
      | some o => rw [I8.kp d o xd z] at nd; cases nd
    have dtp : tp ≠ d := fun z => by have := I9.htp; rw [z, hd9] at this; cases this
    have dtn : tn ≠ d := fun z => by have := I9.htn; rw [z, hd9] at this; cases this
    have ddm : dm ≠ d := fun z => by have := I8.hdm; rw [z, nd] at this; cases this
    have hnd := rows_nodup hk
    have hs7 := rows_small hk
    have sL : (1000 : Nat) < sizeLine := by decide
    refine ⟨_, rfl, _, rfl, tn, tp, _, _, rfl, .inr ⟨SqT.of I9.htn, SqT.of I9.htp, ?_⟩⟩
    refine for_it (walk_zipT (xs := (namesOf rs).map V.str) (ys := parts) (n := parts.length) (by rw [List.length_map, hnl]; omega)) (fun i σ H10 => ∃ x6 x7, σ = [some (.ref x), some (.str kd), some (.ref tp), some (.ref dm), some (.ref tn), some (.ref pm), x6, x7, none, none] ∧ (∀ b o, b ≠ d → H9 b = some o → H10 b = some o) ∧ H10 d = some (.dK (fkv (namesOf rs) (parts.take i))))
      ⟨y6, none, rfl, fun b o _ e => e, ?_⟩ (fun i σ H10 _ ⟨_, _, _, k10, _⟩ => ⟨SqT.of (k10 _ _ dtn I9.htn), SqT.of (k10 _ _ dtp I9.htp)⟩) ?_ ?_
    · rw [hd9, List.take_zero]
      cases namesOf rs <;> rfl
    · rintro i v σ H10 H11 hi ⟨x6, x7, rfl, k10, h10⟩ ⟨Tp, y1, y2, rfl, nT, rfl, hy1, hy2⟩
      have hy1 : ((namesOf rs).map V.str)[i]? = some y1 := hy1
      have hy2 : parts[i]? = some y2 := hy2
      obtain ⟨nm, hnm, rfl⟩ : ∃ nm, (namesOf rs)[i]? = some nm ∧ y1 = .str nm := by
        rw [List.getElem?_map] at hy1
        cases z : (namesOf rs)[i]? with
        | none => rw [z] at hy1; cases hy1
        | some nm => rw [z] at hy1; cases hy1; exact ⟨nm, rfl, rfl⟩
      have Td : Tp ≠ d := fun z => by rw [z, h10] at nT; cases nT
      refine ⟨Tp, [.str nm, y2], rfl, SqT.of upd_same, rfl, _, _, rfl, _, _, rfl, rfl, ?_⟩
      have hx11 : (upd H10 Tp (.tup [.str nm, y2])) x = some (.ins C dx (nodeFs kd m d)) := same_new nT _ _ (k10 _ _ xd.symm I9.hx)
      have hd11 : (upd H10 Tp (.tup [.str nm, y2])) d = some (.dK (fkv (namesOf rs) (parts.take i))) := same_new nT _ _ h10
      have ltk : (parts.take i).length = i := by rw [List.length_take]; omega
      have hsz : (fkv (namesOf rs) (parts.take i)).length < sizeLine := by
        rw [fkv_len (by rw [ltk, hnl]; omega), ltk]
        omega
      refine ⟨_, rfl, _, rfl, x, C, dx, _, .ref d, rfl, hx11, N.cl, N.n6, rfl, _, rfl, d, _, rfl, DPut.k (k := Sum.inr nm) hd11 hsz, _, _, rfl, ?_, ?_⟩
      · intro b o nb e
        rw [upd_ne nb]
        exact same_new nT _ _ (k10 _ _ nb e)
      · rw [upd_same, fkv_snoc hnd (by rw [ltk]; exact hnm)]
        rw [List.take_succ, hy2]
        rfl
    · rintro σ H10 ⟨x6, x7, rfl, k10, h10⟩
      rw [List.take_length] at h10
      obtain ⟨a, ha, as, hs, hla, hp⟩ := fldIs_at T.oF hk
      refine ⟨_, rfl, aF, kd, .ref a, rfl, rfl, T.kd ha, _, rfl, tp, _, rfl, .inr (SqT.of (k10 _ _ dtp I9.htp)), _, rfl, ?_⟩
      dsimp only [tNoPart]
      refine sl_from (K := K) (hs _) (by rw [List.length_map, hla]; exact hl) fun pr H11 s11 hpr => ?_
      refine ⟨pr, rfl, ⟨_, hpr⟩, ?_⟩
      have k11 : ∀ b o, b ≠ d → H9 b = some o → H11 b = some o := fun b o nb e => s11 _ _ (k10 b o nb e)
      have hx11 : H11 x = some (.ins C dx (nodeFs kd m d)) := k11 _ _ xd.symm I9.hx
      have hdm11 : H11 dm = some (.dK m) := k11 _ _ ddm I9.hdm
      have hd11 := s11 _ _ h10
      have prd : ∀ {H' : Hp}, (∀ b o, b ≠ d → H11 b = some o → H' b = some o) → SqT K H' pr ((as.map V.ref).drop parts.length) := fun {H'} kk => by
        rcases hpr with (hpr | ⟨o, hpr⟩) | hpr
        · exact .inl (.inl (kk _ _ (fun z => by rw [z, hd11] at hpr; cases hpr) hpr))
        · exact .inl (.inr ⟨o, kk _ _ (fun z => by rw [z, hd11] at hpr; cases hpr) hpr⟩)
        · exact .inr hpr
      refine for_tup (D := { nx := fun _ H' => Q .non H', rt := Q }) (K := K) (a := pr) (xs := (as.map V.ref).drop parts.length) (fun i σ H12 => ∃ x6 x7 x8 x9 ds, σ = [some (.ref x), some (.str kd), some (.ref tp), some (.ref dm), some (.ref tn), some (.ref pm), x6, x7, x8, x9] ∧ (∀ b o, b ≠ d → H11 b = some o → H12 b = some o) ∧ ds.length = i ∧ H12 d = some (.dK (fkv (namesOf rs) (parts ++ ds))) ∧
          (∀ (j : Nat) v r, ds[j]? = some v → rs[parts.length + j]? = some r → DefV C H11 H12 r.1 r.2.2 v) ∧ Apart ds) ⟨x6, x7, none, none, [], rfl, fun b o _ e => e, rfl, by rw [List.append_nil]; exact hd11, fun j v r g => by simp at g, fun i j a b _ g => by simp at g⟩ (fun i σ H12 _ ⟨_, _, _, _, _, _, k12, _⟩ => prd k12) ?_ ?_
      · rintro i v σ H12 hv ⟨y6, y7, y8, y9, ds, rfl, k12, rfl, h12, df12, ap12⟩
        rw [List.getElem?_drop, List.getElem?_map] at hv
        obtain ⟨b, hb, rfl⟩ : ∃ b, as[parts.length + ds.length]? = some b ∧ v = .ref b := by
          cases z : as[parts.length + ds.length]? with
          | none => rw [z] at hv; cases hv
          | some b => rw [z] at hv; cases hv; exact ⟨b, rfl, rfl⟩
        have hi : parts.length + ds.length < rs.length := by
          rcases Nat.lt_or_ge (parts.length + ds.length) as.length with z | z
          · omega
          · rw [List.getElem?_eq_none z] at hb; cases hb
        obtain ⟨r, hr'⟩ : ∃ r, rs[parts.length + ds.length]? = some r := ⟨_, List.getElem?_eq_getElem hi⟩
        have n1 : n = 1 := by
          rcases hn with z | z
          · exact z
          · rw [z] at hi; exact absurd hi (Nat.not_lt_zero _)
        have hx12 := k12 _ _ xd.symm hx11
        have hdm12 := k12 _ _ ddm hdm11
        have hnm : (namesOf rs)[(parts ++ ds).length]? = some r.1 := by
          unfold namesOf
          rw [List.getElem?_map, List.length_append, hr']
          rfl
        have hll : (parts ++ ds).length < (namesOf rs).length := by rw [List.length_append, hnl]; exact hi
        refine ⟨b, [.str r.1, .str r.2.1, .str r.2.2], rfl, hp _ b r hb hr' H12, rfl, _, _, rfl, _, _, rfl, _, _, rfl, rfl, ?_⟩
        refine ⟨_, rfl, _, rfl, dm, _, rfl, DGet.k (k := Sum.inr r.1) hdm12, _, rfl, ?_⟩
        rw [not_at hm (row_at hk (List.mem_of_getElem? hr'))]
        refine iteF ?_
        refine ⟨_, rfl, _, rfl, r.1, r.2.2, rfl, n1, fun H13 v s13 dv => ?_⟩
        have h13 := s13 _ _ h12
        have hsz : (fkv (namesOf rs) (parts ++ ds)).length < sizeLine := by
          rw [fkv_len (Nat.le_of_lt hll)]
          omega
        refine ⟨_, rfl, x, C, dx, _, .ref d, rfl, s13 _ _ hx12, N.cl, N.n6, rfl, _, rfl, d, _, rfl, DPut.k (k := Sum.inr r.1) h13 hsz, _, _, _, _, ds ++ [v], rfl, ?_, ?_, ?_, ?_, ?_⟩
        · intro c o nc e
          rw [upd_ne nc]
          exact s13 _ _ (k12 c o nc e)
        · rw [List.length_append]; rfl
        · rw [upd_same, fkv_snoc hnd hnm, List.append_assoc]
        · intro j u r2 g1 g2
          have key : ∀ {c : Addr} {o : HO}, H11 c = none → ∀ {H' : Hp}, H' c = some o → (upd H' d (.dK (putK (fkv (namesOf rs) (parts ++ ds)) (.inr r.1) v))) c = some o := fun {c o} n0 {H'} e => by
            rw [upd_ne (fun z => by rw [z, hd11] at n0; cases n0)]; exact e
          by_cases hj : j < ds.length
          · rw [List.getElem?_append_left hj] at g1
            exact (df12 j u r2 g1 g2).mono (fun _ z => z) fun c o n0 e => key n0 (s13 _ _ e)
          · have lj : j < (ds ++ [v]).length := by
              rcases Nat.lt_or_ge j (ds ++ [v]).length with z | z
              · exact z
              · rw [List.getElem?_eq_none z] at g1; cases g1
            rw [List.length_append, List.length_singleton] at lj
            have ej : j = ds.length := by omega
            subst ej
            rw [List.getElem?_append_right (Nat.le_refl _), Nat.sub_self] at g1
            cases g1
            rw [hr'] at g2
            cases g2
            refine dv.mono (fun c n0 => ?_) fun c o n0 e => ?_
            · cases z : H11 c with
              | none => rfl
              | some o =>
                by_cases hc : c = d
                · rw [hc, h12] at n0; cases n0
                · rw [k12 c o hc z] at n0; cases n0
            · rw [upd_ne (fun z => by rw [z, h12] at n0; cases n0)]; exact e
        · refine ap12.snoc fun j a b e1 e2 z => ?_
          subst e2
          have hj : j < ds.length := by
            rcases Nat.lt_or_ge j ds.length with z | z
            · exact z
            · rw [List.getElem?_eq_none z] at e1; cases e1
          have hj2 : parts.length + j < rs.length := by omega
          have q1 := (df12 j _ _ e1 (List.getElem?_eq_getElem hj2)).nw.2
          rw [z] at q1
          exact q1 dv.nw.1
      · rintro σ H12 ⟨y6, y7, y8, y9, ds, rfl, k12, hdl, h12, df12, ap12⟩
        rw [List.length_drop, List.length_map, hla] at hdl
        have kX : ∀ b o, b ≠ x → H b = some o → H12 b = some o := fun b o nb e => by
          have hb : b ≠ d := fun z => by rw [z, ndH] at e; cases e
          exact k12 b o hb (k11 b o hb (I9.kp b o nb e))
        refine q H12 d ds kX ndH (k12 _ _ xd.symm hx11) h12 (by rw [List.length_append, hdl]; omega) (fun j v r g1 g2 => (df12 j v r g1 g2).mono (fun c n0 => ?_) fun c o n0 e => e) ap12
        cases z : H c with
        | none => rfl
        | some o =>
          by_cases hc : c = x
          · rw [hc, hx11] at n0; cases n0
          · have hb : c ≠ d := fun z' => by rw [z', ndH] at z; cases z
            rw [k11 c o hb (I9.kp c o hc z)] at n0; cases n0
  obtain ⟨t, h1, h2⟩ := main
  exact ⟨t, h1.nox, h2⟩

theorem ok_ini {f fO fD : Addr} {fd dO dD : FuncData} (F : Fun K "__init__" "Node.__init__" sNI f fd) (T : Tabs K w mg aF aA eF nF) (Z : Blt mg) (N : NodeF K C)
    (O : FnOk P w K mg base CX0 1 fO dO ["kind"] spFO) (bO : Binds K dO ["kind"] []) (kO : PySem.W.keepIn K (.ref fO) = true) (mO : mg "fields_of" = some (.ref fO))
    (bD : Binds K dD ["name", "mark"] []) (kD : PySem.W.keepIn K (.ref fD) = true) (mD : mg "_default" = some (.ref fD)) {n k : Nat} (hk1 : 1 ≤ k) (D : FnOk P w K mg base CX0 k fD dD ["name", "mark"] (spDef n C)) :
    FnR P w K mg base CX0 (k + 1) f (spIni n C) := by
  obtain ⟨oc, od, kV, doc, pm, an, cdv, ct, osl, rfl, lk, hcd⟩ := F.ex
  refine fn_starkw (ps := ["self", "kind"]) (pv := "parts") (pd := "more") lk hcd scNI (cxUp_none) (fun us rest hl => ?_) (fun A outer s H vs Q E hr h => ini_core T Z N O bO kO mO bD kD mD hk1 D A outer s H vs Q E hr h)
  match us, hl with
  | [a, b], _ =>
    cases rest with
    | nil => rfl
    | cons r rs => rfl
def kw4 : List Str := ["end_lineno", "lineno", "col_offset", "end_col_offset"]
theorem ok_iniK {f fO fD : Addr} {fd dO dD : FuncData} (F : Fun K "__init__" "Node.__init__" sNI f fd) (T : Tabs K w mg aF aA eF nF) (Z : Blt mg) (N : NodeF K C)
    (O : FnOk P w K mg base CX0 1 fO dO ["kind"] spFO) (bO : Binds K dO ["kind"] []) (kO : PySem.W.keepIn K (.ref fO) = true) (mO : mg "fields_of" = some (.ref fO))
    (bD : Binds K dD ["name", "mark"] []) (kD : PySem.W.keepIn K (.ref fD) = true) (mD : mg "_default" = some (.ref fD)) {n k : Nat} (hk1 : 1 ≤ k) (D : FnOk P w K mg base CX0 k fD dD ["name", "mark"] (spDef n C)) :
    FnRK P w K mg base CX0 (k + 1) f kw4 (spIniK n C kw4) := by
  obtain ⟨oc, od, kV, doc, pm, an, cdv, ct, osl, rfl, lk, hcd⟩ := F.ex
  refine fn_starkwK (ps := ["self", "kind"]) (pv := "parts") (pd := "more") lk hcd scNI (cxUp_none) (by decide +kernel) (by decide) (fun us rest ws hl hw => ?_) (fun A outer s H vs Q E hr h => ini_core T Z N O bO kO mO bD kD mD hk1 D A outer s H vs Q E hr h)
  match us, hl, ws, hw with
  | [a, b], _, [w1, w2, w3, w4], _ =>
    cases rest with
    | nil => rfl
    | cons r rs => rfl
theorem ok_iniL {f fO fD : Addr} {fd dO dD : FuncData} (F : Fun K "__init__" "Node.__init__" sNI f fd) (T : Tabs K w mg aF aA eF nF) (Z : Blt mg) (N : NodeF K C)
    (O : FnOk P w K mg base CX0 1 fO dO ["kind"] spFO) (bO : Binds K dO ["kind"] []) (kO : PySem.W.keepIn K (.ref fO) = true) (mO : mg "fields_of" = some (.ref fO))
    (bD : Binds K dD ["name", "mark"] []) (kD : PySem.W.keepIn K (.ref fD) = true) (mD : mg "_default" = some (.ref fD)) {n k : Nat} (hk1 : 1 ≤ k) (D : FnOk P w K mg base CX0 k fD dD ["name", "mark"] (spDef n C)) :
    FnRK P w K mg base CX0 (k + 1) f ["lineno"] (spIniK n C ["lineno"]) := by
  obtain ⟨oc, od, kV, doc, pm, an, cdv, ct, osl, rfl, lk, hcd⟩ := F.ex
  refine fn_starkwK (ps := ["self", "kind"]) (pv := "parts") (pd := "more") lk hcd scNI (cxUp_none) (by decide +kernel) (by decide) (fun us rest ws hl hw => ?_) (fun A outer s H vs Q E hr h => ini_core T Z N O bO kO mO bD kD mD hk1 D A outer s H vs Q E hr h)
  match us, hl, ws, hw with
  | [a, b], _, [w1], _ =>
    cases rest with
    | nil => rfl
    | cons r rs => rfl
end
end Q8

namespace Q8
open PySem PySem.Spec PyProof.Rows L2 StX
/-! ### several except clauses, each with a name -/
def wAll (K : PySem.W.Frag) (Wout : WX) (i : Nat) (D : Ends) : List (Value × (Addr → Value → Option Addr → TS)) → WX
  | [] => Wout
  | (c, ts) :: r => fun cls d σ H => ∃ b, PySem.W.exmOne K cls c = some b ∧ (b = true → ∀ a, H a = none → ts a cls d { nx := fun σ' H' => D.nx (σ'.set i none) H', rt := D.rt, bk := fun σ' H' => D.bk (σ'.set i none) H', ct := fun σ' H' => D.ct (σ'.set i none) H' } (σ.set i (some (.ref a))) H) ∧
      (b = false → wAll K Wout i D r cls d σ H)
inductive HdsAs (X : Cx) (n : Str) : List ExceptHandler → List (Value × (Addr → Value → Option Addr → TS)) → Prop
  | nil : HdsAs X n [] []
  | cons {x : Str} {c : Value} {ts : Addr → Value → Option Addr → TS} {b₀ : Stmt} {suite : List Stmt} {np pos' : Pos} {hds : List ExceptHandler} {l : List (Value × (Addr → Value → Option Addr → TS))} (hc : Names X x c)
      (hsu : ∀ (a : Addr) (oe : Obj) (cls : Value) (d : Option Addr) (pn : List (Addr × Obj)), Zc cls d oe → (∃ vs, oe.data = .fields vs) → PSs (X.suite a ((a, oe) :: pn)) (b₀ :: suite) (ts a cls d)) (r : HdsAs X n hds l) :
      HdsAs X n (.ExceptHandler (some (.Name x np)) (some n) (b₀ :: suite) pos' :: hds) ((c, ts) :: l)
section
variable {X : Cx} {n : Str} {i : Nat} {body : List Stmt} {h₀ : ExceptHandler} {hds : List ExceptHandler} {l : List (Value × (Addr → Value → Option Addr → TS))} {pos : Pos} {tb : WX → TS} {Wout : WX}
theorem ps_try_all (hs : X.stack = X.env :: X.outer) (hf : X.env.frame = some X.env.locals) (hN : X.N.Nodup) (hi : X.N[i]? = some n) (hln : X.env.kindOf n = some .local) (tk : Takes X Wout)
    (hb : ∀ (W : WX) (pn : List (Addr × Obj)) (xe : Value → Shared → Prop), Takes (X.tr pn xe) W → PassesOwn (model X.prog X.w) X.A X.env xe → PSs (X.tr pn xe) body (tb W))
    (hh : HdsAs X n (h₀ :: hds) l) : PS X (.Try body (h₀ :: hds) [] [] pos) (fun D σ H => tb (wAll X.K Wout i D l) D σ H) := by
  refine ⟨fun pins s σ H D I h => ?_⟩
  have ok := I.ok
  have hfr : X.A.frames = some (X.env :: X.outer) := by rw [ok.frames, hs]
  have hloc : Loc X.env.scope n := .inl hln
  refine wpAny_Try_except ?_
  refine wpAny_mono ((hb (wAll X.K Wout i D l) (X.pn ++ pins) (fun e s₁ => wpAny (model X.prog X.w) X.A (noteFrame e X.env) (fun _ s₂ => wpAny (model X.prog X.w) X.A (setFlight e none) (fun _ s₃ =>
    wpAny (model X.prog X.w) X.A (handleBy e X.env (h₀ :: hds)) (SP X pins D) X.xe s₃) X.xe s₂) X.xe s₁) (fun u s' xx => ?_) PassesOwn.looking).run [] s σ H D (I.toTry _) h) (fun f s1 hsp => ?_) (fun e s1 he => he)
  · -- the catch
    obtain ⟨a, B, sI, pins', σ', H', cls, d, rfl, J', nb, up, sky, na, os, ag, w⟩ := xx
    have J : Inv X pins σ' H' sI := J'.ofTry ok
    have sky' : Sky B (X.env :: X.outer) a (Zc cls d) X.env.locals s'.heap := by rw [← hs]; exact sky
    show wpAny (model X.prog X.w) X.A (noteFrame (.ref a) X.env) _ _ _
    refine Sky.land Zc.steady hfr hf sky' fun h3 fl3 up3 => ?_
    have J3 : Inv X pins σ' H' { s' with heap := h3 } := J.landed nb fl3.1 (up.trans up3) os ag
    obtain ⟨oe3, vs3, he3, hz3, hd3⟩ := fl3.there
    have notFr : ∀ {h : Heap} {o : Obj} {vs : Array Value}, h.FunFrames B (X.env :: X.outer) → h.get? a = some o → o.data = .fields vs → a ∉ frs (X.env :: X.outer) := fun {h o vs} ff e dd hm => by
      obtain ⟨_, o', e', hnf⟩ := ff.mem hm
      rw [e] at e'; cases e'
      exact hnf _ dd
    have nfr := notFr fl3.2.2.1 he3 hd3
    have nL : a ≠ X.env.locals := fun z => nfr (List.mem_filterMap.mpr ⟨X.env, List.mem_cons_self, by rw [hf, z]⟩)
    have nF : a ∉ X.fs := fun hm => by
      obtain ⟨e, he, q⟩ := List.mem_filterMap.mp hm
      exact nfr (List.mem_filterMap.mpr ⟨e, List.mem_cons_of_mem _ he, q⟩)
    have S3 := J3.suite he3 hd3 na nL nF
    have go : ∀ {hds' : List ExceptHandler} {l' : List (Value × (Addr → Value → Option Addr → TS))}, HdsAs X n hds' l' → wAll X.K Wout i D l' cls d σ' H' →
        wpAny (model X.prog X.w) X.A (handleBy (.ref a) X.env hds') (SP X pins D) X.xe { s' with heap := h3 } := by
      intro hds' l' hk
      induction hk with
      | nil =>
        intro w
        refine wpAny_handleBy_nil ?_
        obtain ⟨k1, k2, k3, oe, vs, T, oT, ts', he, hz, hd, h1, hr⟩ := id fl3
        unfold PySem.passOn
        refine wpAny_bind (wpAny_field he hd h1 ?_)
        rw [if_neg (show ¬ ((Value.ref T == Value.none) = true) from by simp)]
        have fin : wpAny (model X.prog X.w) X.A (setFlight (.ref a) X.env.frame) (fun _ s4 => wpAny (model X.prog X.w) X.A (throw (.ref a) : Sem Flow) (SP X pins D) X.xe s4) X.xe { s' with heap := h3 } := by
          rw [hf]
          refine HandSPX.setFlight_upZ fl3 fun h4 hh4 up4 => wpAny_throw (tk _ _ ?_)
          exact ⟨a, B, sI, pins, σ', H', cls, d, rfl, J, nb, (up.trans up3).trans up4, .inr (.inr (by rw [hs]; exact hh4)), na, os, ag, w⟩
        first
          | exact wpAny_bind (wpAny_pure (wpAny_bind fin))
          | exact wpAny_bind fin
      | @cons x c ts b₀ suite np pos' hds2 l2 hc hsu r ih =>
        intro w
        obtain ⟨b, hb1, hyes, hno⟩ := w
        refine wpAny_handleBy_cons (codeAny_handlers_test ?_) (by intro q; cases q)
        have LT : PySem.W.Looks (model X.prog X.w) h3 (typeOf (.ref a)) cls := fun A Q E s k q => wpAny_typeOf_ref (k _ _ he3) (by rw [hz3.1]; exact q)
        have LM := PySem.W.exm_one (M := model X.prog X.w) (J3.kIn) LT hb1
        have test : ∀ {Q : Value → Shared → Prop} {E : Value → Shared → Prop}, Q c { s' with heap := h3 } → wpAny (model X.prog X.w) (X.A.mark (some (.ref a))) (eval (.Name x np) X.env) Q E { s' with heap := h3 } := fun {Q E} q => by
          obtain ⟨hg, hdbg, hm | ⟨hm, hv, hnn⟩⟩ := hc
          · exact ld_glob (X := X.suite a ((a, oe3) :: (X.pn ++ pins))) S3 hg hm q hdbg
          · exact ld_blt (X := X.suite a ((a, oe3) :: (X.pn ++ pins))) S3 hg hm hv q hnn hdbg
        refine test (LM.here ?_)
        cases b with
        | true =>
          refine codeAny_handlers_suite_as ?_
          refine HandSPX.lands_againZ fl3 fun h4 fl4 up4 => ?_
          have J4 : Inv X pins σ' H' { s' with heap := h4 } := J.landed nb fl4.1 ((up.trans up3).trans up4) os ag
          obtain ⟨oe4, vs4, he4, hz4, hd4⟩ := fl4.there
          have S4 := J4.suite he4 hd4 na nL nF
          refine store_ok (X := X.suite a ((a, oe4) :: (X.pn ++ pins))) (v := .ref a) S4 hN hi hloc rfl (fun s5 S5 => ?_) (.inr hln)
          refine wpAny_mono ((hsu a oe4 cls d (X.pn ++ pins) hz4 ⟨_, hd4⟩).run [] s5 _ H' _ S5 (hyes rfl a na)) (fun f s6 hsp => ?_) (fun _ _ z => False.elim z)
          have end_ : ∀ {σ6 : L2.St} {H6 : Hp} {Q : Shared → Prop}, Inv (X.suite a ((a, oe4) :: (X.pn ++ pins))) [] σ6 H6 s6 → (∀ s7, Inv X pins (σ6.set i none) H6 s7 → Q s7) →
              wpAny (model X.prog X.w) X.A (do bindName X.env n .none; unbindBehindTheSuite X.env n pos') (fun _ s7 => Q s7) X.xe s6 := fun {σ6 H6 Q} S6 hq => gone_ok (S6.unsuite ok) hN hi hln hq
          cases f with
          | next =>
            obtain ⟨σ6, H6, S6, q6⟩ := hsp
            exact end_ S6 fun s7 J7 => ⟨_, _, J7, q6⟩
          | brk =>
            obtain ⟨σ6, H6, S6, q6⟩ := hsp
            exact end_ S6 fun s7 J7 => ⟨_, _, J7, q6⟩
          | cont =>
            obtain ⟨σ6, H6, S6, q6⟩ := hsp
            exact end_ S6 fun s7 J7 => ⟨_, _, J7, q6⟩
          | ret u =>
            obtain ⟨v6, σ6, H6, S6, r6, q6⟩ := hsp
            exact end_ S6 fun s7 J7 => ⟨_, _, _, J7, r6, q6⟩
        | false =>
          show wpAny _ X.A (handleBy (.ref a) X.env hds2) _ _ _
          exact ih (hno rfl)
    exact go hh w
  · cases f with
    | next =>
      obtain ⟨σ', H', J', q⟩ := hsp
      exact wpAny_execs_nil ⟨σ', H', J'.ofTry ok, q⟩
    | brk =>
      obtain ⟨σ', H', J', q⟩ := hsp
      exact ⟨σ', H', J'.ofTry ok, q⟩
    | cont =>
      obtain ⟨σ', H', J', q⟩ := hsp
      exact ⟨σ', H', J'.ofTry ok, q⟩
    | ret u =>
      obtain ⟨v, σ', H', J', r, q⟩ := hsp
      exact ⟨v, σ', H', J'.ofTry ok, r, q⟩
end
end Q8

namespace Q8
open PySem PySem.Spec PyProof.Rows L2
/-! ### o[name] and o[name] = v by the class's own defs -/
structure NodeC (K : PySem.W.Frag) (C fG fS : Addr) : Prop where
  cl : Cls K C
  sq : PySem.W.noSeq K C = true
  gt : PySem.W.findIn K (.ref C) "__getitem__" = some (some (.ref fG))
  gfn : PySem.W.fnIn K fG = true
  gf : PySem.W.isFn K (.ref fG) = true
  st : PySem.W.findIn K (.ref C) "__setitem__" = some (some (.ref fS))
  sf : PySem.W.isFn K (.ref fS) = true
def spGet (C : Addr) : Sp := fun vs H Q _ => ∃ (p dx d : Addr) (nm : Str) (fs : List (Str × V)) (kvs : List (Key × V)) (v : V), vs = [.ref p, .str nm] ∧ H p = some (.ins C dx fs) ∧ fs.lookup ("_fields" : Str) = some (V.ref d) ∧ H d = some (.dK kvs) ∧ valV kvs (.inr nm) = some v ∧ Q v H
def spSet (C : Addr) : Sp := fun vs H Q _ => ∃ (p dx d : Addr) (nm : Str) (fs : List (Str × V)) (kvs : List (Key × V)) (v w : V), vs = [.ref p, .str nm, w] ∧ H p = some (.ins C dx fs) ∧ fs.lookup ("_fields" : Str) = some (V.ref d) ∧ H d = some (.dK kvs) ∧ valV kvs (.inr nm) = some v ∧ kvs.length < sizeLine ∧ Q .non (upd H d (.dK (putK kvs (.inr nm) w)))
/-- a def called within an around of the same frames -/
theorem callAt {X : Cx} {A : Around} {m : Nat} {f : Addr} {fd : FuncData} {ps : List Str} {sp : Sp} {E : XK} {pins : List (Addr × Obj)} {σ : L2.St} {H : Hp} {s : Shared} {us : List Value} {vs : List V} {Q : VK}
    (F : FnOk X.prog X.w X.K X.mg X.base CX0 m f fd ps sp) (hb : Binds X.K fd ps []) (sb : Sub X m A) (I : Inv X pins σ H s) (r : Vals vs us) (h : sp vs H Q E) : wpAny (model X.prog X.w) A (call (.ref f) us) (EP X pins σ Q) X.xe s := by
  have e0 : Env0 X.prog X.w X.K X.mg X.base A X.stack s H := by
    have z := I.env0
    exact { frames := by rw [sb.fr]; exact z.frames, mod := z.mod, bs := z.bs, bsz := z.bsz, funs := z.funs, frf := z.frf, hok := z.hok, bare := z.bare }
  have hl : us.length = ps.length := by rw [← r.length]; exact F.len _ _ _ _ h
  have hb2 := hb s us I.kIn (by rw [List.append_nil]; exact hl)
  rw [List.append_nil] at hb2
  refine wpAny_call (codeAny_mono (F.run A X.stack s H _ _ _ _ E sb.room e0 hb2 r h) fun r s' hq => ?_)
  cases r with
  | error er => exact hq.elim
  | ok fl =>
    cases fl with
    | next => exact False.elim hq
    | brk => exact False.elim hq
    | cont => exact False.elim hq
    | ret w' => exact I.after hq
theorem sub_own {prog : Program} {w : World} {A : Around} {E : Value → Shared → Prop} {s : Shared} {K : PySem.W.Frag} {x C f : Addr} {ox : Obj} {od : Option Obj} {value slice : Expr} {i : Value} {Q : Value → Shared → Prop}
    (kin : K.In s.heap) (J : PySem.W.InstAt s.heap x ox C od) (g1 : PySem.W.findIn K (.ref C) "__getitem__" = some (some (.ref f))) (g2 : PySem.W.fnIn K f = true) (g3 : PySem.W.isFn K (.ref f) = true)
    (go : wpAny (model prog w) A.in1 (call (.ref f) [.ref x, i]) Q E s) (sl : subscripted slice true (.ref x) i = runValue (.builtin "lifetime.subscript" ⟨[.ref x, i], []⟩)) : wpAny (model prog w) A (subscriptTail value slice (.ref x) i) Q E s := by
  obtain ⟨o, fd, ho, hd⟩ : ∃ (o : Obj) (fd : FuncData), K.lookup f = some o ∧ o.data = .func fd := by
    unfold PySem.W.fnIn at g2
    split at g2
    · rename_i e
      exact ⟨_, _, e, rfl⟩
    · cases g2
  unfold subscriptTail getitemInPython
  refine wpAny_bind (wpAny_bind (wpAny_bind (J.type.here ((PySem.W.looks_findIn kin g1).here ?_))))
  refine wpAny_bind (wpAny_load (kin _ _ ho) (wpAny_pure ?_))
  rw [hd]
  show wpAny (model prog w) A (subscripted slice true (.ref x) i >>= fun v => letTemporaryGo value (.ref x) v >>= fun _ => pure v) Q E s
  rw [sl]
  refine wpAny_bind (wpAny_runValue (codeAny_builtin PySem.W.entry_sub ?_))
  unfold Builtin.«lifetime.subscript»
  exact wpAny_bind (PySem.W.special_fn kin J g1 (beq_iff_eq.mp g3) (wpAny_mono go (fun v s' z => wpAny_pure (wpAny_bind (wpAny_letTemporaryGo (wpAny_pure z)))) fun _ _ z => z))
def tIxN (C : Addr) (ta tb : TE) : TE := fun σ H Q => ta σ H fun x H1 => tb σ H1 fun y H2 => ∃ (p dx d : Addr) (nm : Str) (fs : List (Str × V)) (kvs : List (Key × V)) (v : V), x = .ref p ∧ y = .str nm ∧ H2 p = some (.ins C dx fs) ∧ fs.lookup ("_fields" : Str) = some (V.ref d) ∧ H2 d = some (.dK kvs) ∧ valV kvs (.inr nm) = some v ∧ Q v H2
section
variable {X : Cx} {C fG fS : Addr} {gd sd : FuncData} {m : Nat} {a b : Expr} {ta tb : TE} {pos : Pos}
theorem pe_ixN (N : NodeC X.K C fG fS) (F : FnOk X.prog X.w X.K X.mg X.base CX0 m fG gd ["self", "at"] (spGet C)) (hb : Binds X.K gd ["self", "at"] []) (hr : Room (m + 1) X.A) (h1 : PE X a ta) (h2 : PE X b tb)
    (hs : ∀ o i, subscripted b true o i = runValue (.builtin "lifetime.subscript" ⟨[o, i], []⟩) := by intro _ _; rfl) : PE X (.Subscript a b pos) (tIxN C ta tb) := by
  refine ⟨fun pins s σ H Q I h => ?_⟩
  refine Subscript_ (binT h1 h2 I h fun v u s2 x y H2 I2 rx ry q => ?_)
  obtain ⟨p, dx, d, nm, fs, kvs, z, rfl, rfl, hp, hf, hd, hv, q⟩ := q
  obtain rfl : v = Value.ref p := rx
  obtain ⟨mA, O, _⟩ := ins_get I2.hok hp
  obtain ⟨od, J, _⟩ := O.look
  have sb : Sub X (m + 1) X.A := ⟨hr, rfl⟩
  exact sub_own I2.kIn J N.gt N.gfn N.gf (callAt (E := fun _ _ _ => False) F hb sb.in1 I2 (Paired.cons (show RelV (V.ref p) (Value.ref p) from rfl) (.cons ry .nil)) ⟨p, dx, d, nm, fs, kvs, z, rfl, hp, hf, hd, hv, q⟩) (hs _ _)
def rSetN (C : Addr) : V → V → V → Hp → (Hp → Prop) → Prop := fun o i w H Q => ∃ (p dx d : Addr) (nm : Str) (fs : List (Str × V)) (kvs : List (Key × V)) (v : V), o = .ref p ∧ i = .str nm ∧ H p = some (.ins C dx fs) ∧ fs.lookup ("_fields" : Str) = some (V.ref d) ∧ H d = some (.dK kvs) ∧ valV kvs (.inr nm) = some v ∧ kvs.length < sizeLine ∧ Q (upd H d (.dK (putK kvs (.inr nm) w)))
theorem set_node (N : NodeC X.K C fG fS) (F : FnOk X.prog X.w X.K X.mg X.base CX0 m fS sd ["self", "at", "worth"] (spSet C)) (hb : Binds X.K sd ["self", "at", "worth"] []) (hr : Room m X.A) : PSet X (rSetN C) := by
  intro pins s σ H o i w ov iv u Q I ro ri rw' h
  obtain ⟨p, dx, d, nm, fs, kvs, z, rfl, rfl, hp, hf, hd, hv, hz, q⟩ := h
  obtain rfl : ov = Value.ref p := ro
  obtain ⟨mA, O, _⟩ := ins_get I.hok hp
  obtain ⟨od, J, _⟩ := O.look
  have X0 := I.kIn
  unfold setItem sequenceKey
  refine wpAny_holding (wpAny_bind (wpAny_bind (J.type.here ?_)))
  refine wpAny_bind ((PySem.W.anyM_none X0 N.sq).here ?_)
  rw [if_pos (show (!false) = true from rfl)]
  have go := callAt (E := fun _ _ _ => False) (Q := fun _ H' => Q H') F hb ⟨hr, rfl⟩ I (Paired.cons (show RelV (V.ref p) (Value.ref p) from rfl) (.cons ri (.cons rw' .nil))) ⟨p, dx, d, nm, fs, kvs, z, w, rfl, hp, hf, hd, hv, hz, q⟩
  refine wpAny_pure (wpAny_bind (PySem.W.special_fn X0 J N.st (beq_iff_eq.mp N.sf) (wpAny_mono go (fun v s' hq => ?_) fun _ _ z => z)))
  obtain ⟨v', H', I', _, q'⟩ := hq
  exact wpAny_pure ⟨H', I', q'⟩
end
end Q8

namespace Q8
open PySem PySem.Spec PyProof.Rows L2
abbrev sNG : Stmt := inClass (topS 15) 1
abbrev sNS : Stmt := inClass (topS 15) 2
theorem scNG : FnScope ["self", "at"] ["self", "at"] (defScope sNG) := ⟨rfl, rfl, rfl, by decide +kernel, rfl, by decide +kernel, by decide +kernel⟩
theorem scNS : FnScope ["self", "at", "worth"] ["self", "at", "worth"] (defScope sNS) := ⟨rfl, rfl, rfl, by decide +kernel, rfl, by decide +kernel, by decide +kernel⟩
section
variable {P : Program} {w : World} {K : PySem.W.Frag} {mg : Str → Option Value} {base : Heap}
theorem ok_get {f : Addr} {fd : FuncData} {C : Addr} (F : Fun K "__getitem__" "Node.__getitem__" sNG f fd) (c : Cls K C) (na : NoAttr K C "_fields") (zI : mg "isinstance" = none) (zS : mg "str" = none) : FnOk P w K mg base CX0 1 f fd ["self", "at"] (spGet C) := by
  refine F.ok scNG (fun vs H Q E h => ?_) (fun cdv A outer s H vs Q E hr h => ?_)
  · obtain ⟨p, dx, d, nm, fs, kvs, v, rfl, _⟩ := h
    rfl
  obtain ⟨p, dx, d, nm, fs, kvs, v, rfl, hp, hf, hd, hv, q⟩ := h
  refine ⟨_, pss_cons (ps_if (PW.pt (pw_or (pt_not (pt_val (pe_callB call_isi (by rfl) zI (by decide +kernel) (pa_cons (pv 1) (pa_cons (pe_bltn (v := .ty "str") (by rfl) zS (by decide +kernel) rfl) pa_nil)))))
      (pw_or1 (pt_cmp (pc_dnotin (hu_of hr) (pv 1) (pe_fld (pv 0) rfl)))))) (pss_one ps_no) pss_nil)
    (pss_one (ps_ret (pe_dget (hu_of hr) (pe_fld (pv 0) rfl) (pv 1) (fun _ _ => rfl)))), ?_⟩
  refine ⟨_, rfl, .str nm, .ty "str", _, _, _, rfl, .ty _, .base (.str nm), str_in, _, rfl, iteF ?_⟩
  refine ⟨_, rfl, _, rfl, p, C, dx, fs, _, rfl, hp, c, na, hf, d, _, rfl, DGet.k (k := Sum.inr nm) hd, ?_⟩
  rw [hv]
  refine ⟨_, rfl, iteF ?_⟩
  refine ⟨_, rfl, p, C, dx, fs, _, rfl, hp, c, na, hf, _, rfl, d, v, rfl, ?_, q⟩
  rw [← hv]
  exact DGet.k (k := Sum.inr nm) hd
theorem ok_set {f : Addr} {fd : FuncData} {C : Addr} (F : Fun K "__setitem__" "Node.__setitem__" sNS f fd) (c : Cls K C) (na : NoAttr K C "_fields") (zI : mg "isinstance" = none) (zS : mg "str" = none) : FnOk P w K mg base CX0 1 f fd ["self", "at", "worth"] (spSet C) := by
  refine F.ok scNS (fun vs H Q E h => ?_) (fun cdv A outer s H vs Q E hr h => ?_)
  · obtain ⟨p, dx, d, nm, fs, kvs, v, u, rfl, _⟩ := h
    rfl
  obtain ⟨p, dx, d, nm, fs, kvs, v, u, rfl, hp, hf, hd, hv, hz, q⟩ := h
  refine ⟨_, pss_cons (ps_if (PW.pt (pw_or (pt_not (pt_val (pe_callB call_isi (by rfl) zI (by decide +kernel) (pa_cons (pv 1) (pa_cons (pe_bltn (v := .ty "str") (by rfl) zS (by decide +kernel) rfl) pa_nil)))))
      (pw_or1 (pt_cmp (pc_dnotin (hu_of hr) (pv 1) (pe_fld (pv 0) rfl)))))) (pss_one ps_no) pss_nil)
    (pss_one (ps_dput (hu_of hr) (pe_fld (pv 0) rfl) (pv 1) (pv 2) (by rfl))), ?_⟩
  refine ⟨_, rfl, .str nm, .ty "str", _, _, _, rfl, .ty _, .base (.str nm), str_in, _, rfl, iteF ?_⟩
  refine ⟨_, rfl, _, rfl, p, C, dx, fs, _, rfl, hp, c, na, hf, d, _, rfl, DGet.k (k := Sum.inr nm) hd, ?_⟩
  rw [hv]
  refine ⟨_, rfl, iteF ?_⟩
  exact ⟨_, rfl, _, rfl, p, C, dx, fs, _, rfl, hp, c, na, hf, _, rfl, d, _, rfl, DPut.k (k := Sum.inr nm) hd hz, q⟩
end
end Q8

namespace Q8
open PySem PySem.Spec PyProof.Rows L2 StX
/-! ### the nodes in a value, whatever else stands in it -/
structure NodeI (K : PySem.W.Frag) (C : Addr) : Prop where
  cl : Cls K C
  ha : PySem.W.findIn K (.ref C) "__class__" = some (some (.builtin "object.__class__"))
  hn : PySem.W.specialIn K (.builtin "object.__class__") "__get__" = some (some (.builtin "getset_descriptor.__get__"))
  ht : PySem.W.takesIn K (.builtin "object.__class__") = some true
  hm : PySem.W.mroIn K C (.type "object") = some true
  sf : PySem.W.kitOne K (.ref C) (.ref C) = some true
  nl : PySem.W.kitOne K (.ref C) (.type "list") = some false
def nodeO (C a : Addr) : Option HO → Option Addr
  | some (.ins D _ _) => if D = C then some a else none
  | _ => none
def nodeOf (C : Addr) (H : Hp) : V → Option Addr
  | .ref a => nodeO C a (H a)
  | _ => none
def kidsO (C : Addr) (H : Hp) (a : Addr) : Option HO → List Addr
  | some (.lst xs) => xs.filterMap (nodeOf C H)
  | o => (nodeO C a o).toList
def kidsV (C : Addr) (H : Hp) : V → List Addr
  | .ref a => kidsO C H a (H a)
  | _ => []
def isLO : Option HO → Bool
  | some (.lst _) => true
  | _ => false
def isL (H : Hp) : V → Bool
  | .ref a => isLO (H a)
  | _ => false
/-- v is tracked: what stands at it stands for ever -/
def Trk (H : Hp) (v : V) : Prop := ∀ a, v = .ref a → H a ≠ none
theorem Trk.up {H H' : Hp} {v : V} (h : Trk H v) (s : Same H H') : Trk H' v := fun a e => by
  have z := h a e
  cases q : H a with
  | none => exact absurd q z
  | some o => rw [s _ _ q]; simp
theorem Trk.at_ {H H' : Hp} {v : V} (h : Trk H v) (s : Same H H') : ∀ a, v = .ref a → H' a = H a := fun a e => by
  have z := h a e
  cases q : H a with
  | none => exact absurd q z
  | some o => exact s _ _ q
/-- an item: a node, or something that is none -/
def Itm (K : PySem.W.Frag) (C : Addr) (H : Hp) (v : V) : Prop := Trk H v ∧ ∃ t, TyX K H v t ∧ PySem.W.kitOne K t (.ref C) = some (nodeOf C H v).isSome
/-- a field's value: a list of items, or an item -/
def Vlu (K : PySem.W.Frag) (C : Addr) (H : Hp) (v : V) : Prop := (∃ a xs, v = .ref a ∧ H a = some (.lst xs) ∧ xs.length ≤ 1000 ∧ ∀ x ∈ xs, Itm K C H x) ∨ (Itm K C H v ∧ isL H v = false ∧ ∃ t, TyX K H v t ∧ PySem.W.kitOne K t (.type "list") = some false)
theorem tyX_up {K : PySem.W.Frag} {H H' : Hp} {v : V} {t : Value} (h : TyX K H v t) (k : Same H H') : TyX K H' v t := by
  cases h with
  | base b =>
    cases b with
    | non => exact .base .non
    | bl x => exact .base (.bl x)
    | int i => exact .base (.int i)
    | str x => exact .base (.str x)
    | flt x => exact .base (.flt x)
    | lst e => exact .base (.lst (k _ _ e))
    | frz e => exact .base (.frz (k _ _ e))
    | tup e => exact .base (.tup (k _ _ e))
    | dK e => exact .base (.dK (k _ _ e))
    | dT e => exact .base (.dT (k _ _ e))
    | ins e a b c d f => exact .base (.ins (k _ _ e) a b c d f)
  | byt b => exact .byt b
  | set e => exact .set (k _ _ e)
  | kList e c => exact .kList e c
  | kTuple e c => exact .kTuple e c
  | kDict e c => exact .kDict e c
  | fTuple e => exact .fTuple (k _ _ e)
  | fDict e => exact .fDict (k _ _ e)
theorem nodeOf_up {C : Addr} {H H' : Hp} {v : V} (h : Trk H v) (s : Same H H') : nodeOf C H' v = nodeOf C H v := by
  cases v with
  | ref a => show nodeO C a (H' a) = nodeO C a (H a); rw [h.at_ s a rfl]
  | _ => rfl
theorem Itm.up {K : PySem.W.Frag} {C : Addr} {H H' : Hp} {v : V} (h : Itm K C H v) (s : Same H H') : Itm K C H' v := by
  obtain ⟨h1, t, h2, h3⟩ := h
  exact ⟨h1.up s, t, tyX_up h2 s, by rw [nodeOf_up h1 s]; exact h3⟩
theorem fm_one {α β : Type} (f : α → Option β) (x : α) : [x].filterMap f = (f x).toList := by
  rw [List.filterMap_cons]
  cases f x <;> rfl
theorem filterMap_same {α β : Type} {f g : α → Option β} : ∀ {xs : List α}, (∀ x ∈ xs, f x = g x) → xs.filterMap f = xs.filterMap g
  | [], _ => rfl
  | x :: r, h => by
    have h1 := h x (List.mem_cons_self ..)
    have h2 := filterMap_same (xs := r) fun y hy => h y (List.mem_cons_of_mem _ hy)
    rw [List.filterMap_cons, List.filterMap_cons, h1, h2]
theorem kidsV_lst {C a : Addr} {H : Hp} {xs : List V} (h : H a = some (.lst xs)) : kidsV C H (.ref a) = xs.filterMap (nodeOf C H) := by
  show kidsO C H a (H a) = _
  rw [h]
  rfl
theorem kidsV_one {C : Addr} {H : Hp} {v : V} (h : isL H v = false) : kidsV C H v = (nodeOf C H v).toList := by
  cases v with
  | ref a =>
    show kidsO C H a (H a) = (nodeO C a (H a)).toList
    have h : isLO (H a) = false := h
    cases e : H a with
    | none => rfl
    | some o =>
      rw [e] at h
      cases o with
      | lst xs => cases h
      | _ => rfl
  | _ => rfl
theorem Vlu.up {K : PySem.W.Frag} {C : Addr} {H H' : Hp} {v : V} (h : Vlu K C H v) (s : Same H H') : Vlu K C H' v ∧ kidsV C H' v = kidsV C H v := by
  rcases h with ⟨a, xs, rfl, h1, h2, h3⟩ | ⟨h1, h2, t, h3, h4⟩
  · refine ⟨.inl ⟨a, xs, rfl, s _ _ h1, h2, fun x hx => (h3 x hx).up s⟩, ?_⟩
    rw [kidsV_lst h1, kidsV_lst (s _ _ h1)]
    exact filterMap_same fun x hx => nodeOf_up (h3 x hx).1 s
  · have e : isL H' v = false := by
      cases v with
      | ref a => show isLO (H' a) = false; rw [h1.1.at_ s a rfl]; exact h2
      | _ => rfl
    refine ⟨.inr ⟨h1.up s, e, t, tyX_up h3 s, h4⟩, ?_⟩
    rw [kidsV_one h2, kidsV_one e, nodeOf_up h1.1 s]
theorem nodeOf_ref {C : Addr} {H : Hp} {v : V} {b : Addr} (h : nodeOf C H v = some b) : v = .ref b := by
  cases v with
  | ref a =>
    have h : nodeO C a (H a) = some b := h
    unfold nodeO at h
    split at h
    · split at h
      · cases h; rfl
      · cases h
    · cases h
  | _ => cases h
theorem lst_in {K : PySem.W.Frag} : PySem.W.kitOne K (.type "list") (.type "list") = some true := kit_ty (by decide +kernel)
end Q8

namespace Q8
open PySem PySem.Spec PyProof.Rows L2 StX
/-! ### check_node; errors without fields -/
abbrev vErr : List Value := [.type "ValueError", .type "Exception", .type "BaseException", .type "object"]
structure ErrC (K : PySem.W.Frag) (mg : Str → Option Value) (nm : Str) (C : Addr) : Prop where
  g : mg nm = some (.ref C)
  x : PySem.W.excIn K C vErr "ValueError.__new__" = true
  k : PySem.W.keepIn K (.ref C) = true
  b : PySem.W.subIn K (.ref C) (.type "BaseException") = some true
  t : PySem.W.typeIn K (.ref C) = some (.type "type")
theorem pmk_own0 {X : Cx} {C : Addr} {bmB : List Value} {B newId initId : String} {x : Str} {p pos : Pos} (F : ExcBaseFacts B newId initId bmB) (q : PySem.W.excIn X.K C bmB newId = true) (gC : X.mg x = some (.ref C)) (kC : PySem.W.keepIn X.K (.ref C) = true) (r : Raises X (.ref C)) (hg : Gl X x)
    (hdb : (x == ("__debug__" : Str)) = false := by decide) : PMk X (.Call (.Name x p) [] [] pos) (fun _ H Q => Q (.ref C) none H) := by
  intro pins s σ H Q I h
  refine wpAny_Call_Name_kw (ld_glob I hg gC ?_ hdb)
  refine PySem.W.callWith_K0 I.kIn kC ?_
  show wpAny _ _ (call (.ref C) []) _ _ _
  obtain ⟨bm, N, nm, qn, bs, hdct, sn, sub, ab, col, dd, k0, k1, k2, k3, k5, mN, hC, hN, hni, T⟩ := exc_obj I.kIn q
  refine wpAny_call_exc_subT F T hC hN hni (fun h' e hm => ?_) (by show 0 ≤ sizeLine; exact Nat.zero_le _)
  exact mk_of I hm r h (I.hok.gone hm.new)
abbrev sChk : Stmt := topS 18
theorem scChk : FnScope ["thing"] ["thing"] (defScope sChk) := ⟨rfl, rfl, rfl, by decide +kernel, rfl, by decide +kernel, by decide +kernel⟩
def spChk0 (C : Addr) : Sp := fun vs H Q _ => ∃ p dx fs, vs = [.ref p] ∧ H p = some (.ins C dx fs) ∧ Q .non H
def spChkX (K : PySem.W.Frag) (C CN : Addr) : Sp := fun vs H _ E => ∃ (v : V) (t : Value), vs = [v] ∧ TyX K H v t ∧ PySem.W.kitOne K t (.ref C) = some false ∧ E (.ref CN) none H
section
variable {P : Program} {w : World} {K : PySem.W.Frag} {mg : Str → Option Value} {base : Heap} {C CN : Addr}
theorem ok_chk0 {f : Addr} {fd : FuncData} (F : Fun K "check_node" "check_node" sChk f fd) (Z : Blt mg) (N : NodeI K C) (mN : mg "Node" = some (.ref C)) : FnOk P w K mg base CX0 1 f fd ["thing"] (spChk0 C) := by
  refine F.ok scChk (fun vs H Q E h => ?_) (fun cdv A outer s H vs Q E hr h => ?_)
  · obtain ⟨p, dx, fs, rfl, _⟩ := h
    rfl
  obtain ⟨p, dx, fs, rfl, hp, q⟩ := h
  refine ⟨_, pss_one (ps_if (pt_not (pt_val (pe_callB call_isi (by rfl) Z.isI (by decide +kernel) (pa_cons (pv 0) (pa_cons (pe_glob (v := .ref C) rfl mN rfl) pa_nil))))) (pss_one ps_no) pss_nil), ?_⟩
  exact ⟨_, rfl, .ref p, .ref C, _, _, _, rfl, .own _, .base (.ins hp N.cl N.ha N.hn N.ht N.hm), N.sf, _, rfl, iteF q⟩
theorem ok_chkX {f : Addr} {fd : FuncData} (F : Fun K "check_node" "check_node" sChk f fd) (Z : Blt mg) (mN : mg "Node" = some (.ref C)) (EN : ErrC K mg "BadNode" CN) : FnOk P w K mg base (L2.CX P w) 1 f fd ["thing"] (spChkX K C CN) := by
  refine F.okX scChk (fun vs H Q E h => ?_) (fun cdv A outer s H vs Q E hr h => ?_)
  · obtain ⟨v, t, rfl, _⟩ := h
    rfl
  obtain ⟨v, t, rfl, ht, hk, q⟩ := h
  refine ⟨_, pss_one (ps_if (pt_not (pt_val (pe_callB call_isi (by rfl) Z.isI (by decide +kernel) (pa_cons (pv 0) (pa_cons (pe_glob (v := .ref C) rfl mN rfl) pa_nil)))))
    (pss_one (ps_raise rfl (takes_of rfl rfl rfl rfl) (pmk_own0 PySem.F.excBase_ValueError EN.x EN.g EN.k (raises_own EN.b EN.t) rfl))) pss_nil), ?_⟩
  exact ⟨_, rfl, v, .ref C, _, _, _, rfl, .own _, ht, hk, _, rfl, iteT q⟩
end
/-! ### nodes and trees -/
def NodeAt (C : Addr) (H : Hp) (p : Addr) (k : Str) (vs : List V) : Prop := ∃ dx d m rs, H p = some (.ins C dx (nodeFs k m d)) ∧ H d = some (.dK (fkv (namesOf rs) vs)) ∧ Fld.lookup k = some rs ∧ vs.length = rs.length
theorem NodeAt.up {C : Addr} {H H' : Hp} {p : Addr} {k : Str} {vs : List V} (h : NodeAt C H p k vs) (s : Same H H') : NodeAt C H' p k vs := by
  obtain ⟨dx, d, m, rs, h1, h2, h3, h4⟩ := h
  exact ⟨dx, d, m, rs, s _ _ h1, s _ _ h2, h3, h4⟩
def kidsL (C : Addr) (H : Hp) (vs : List V) : List Addr := vs.flatMap (kidsV C H)
mutual
/-- a tree at p; what stands behind is its nodes, each ahead of those below -/
inductive Tr (K : PySem.W.Frag) (C : Addr) (H : Hp) : Addr → List Addr → Prop
  | mk {p : Addr} {k : Str} {vs : List V} {ls : List Addr} : NodeAt C H p k vs → (∀ v ∈ vs, Vlu K C H v) → TrL K C H (kidsL C H vs) ls → Tr K C H p (p :: ls)
inductive TrL (K : PySem.W.Frag) (C : Addr) (H : Hp) : List Addr → List Addr → Prop
  | nil : TrL K C H [] []
  | cons {p : Addr} {l ps ls : List Addr} : Tr K C H p l → TrL K C H ps ls → TrL K C H (p :: ps) (l ++ ls)
end
theorem TrL.app {K : PySem.W.Frag} {C : Addr} {H : Hp} : ∀ {ps qs ls ms : List Addr}, TrL K C H ps ls → TrL K C H qs ms → TrL K C H (ps ++ qs) (ls ++ ms)
  | [], _, _, _, .nil, h => h
  | _ :: _, _, _, _, .cons h1 h2, h => by
    rw [List.append_assoc]
    exact .cons h1 (h2.app h)
theorem TrL.len {K : PySem.W.Frag} {C : Addr} {H : Hp} : ∀ {ps ls : List Addr}, TrL K C H ps ls → ps.length ≤ ls.length
  | [], _, .nil => Nat.le_refl _
  | _ :: _, _, .cons (.mk _ _ _) h2 => by
    have := h2.len
    simp only [List.length_cons, List.length_append]
    omega
theorem kidsL_up {K : PySem.W.Frag} {C : Addr} {H H' : Hp} (s : Same H H') : ∀ {vs : List V}, (∀ v ∈ vs, Vlu K C H v) → kidsL C H' vs = kidsL C H vs
  | [], _ => rfl
  | v :: r, h => by
    show kidsV C H' v ++ kidsL C H' r = kidsV C H v ++ kidsL C H r
    rw [(h v (List.mem_cons_self ..)).up s |>.2, kidsL_up s fun x hx => h x (List.mem_cons_of_mem _ hx)]
mutual
theorem Tr.up {K : PySem.W.Frag} {C : Addr} {H H' : Hp} (s : Same H H') : ∀ {p : Addr} {l : List Addr}, Tr K C H p l → Tr K C H' p l
  | _, _, .mk n v t => .mk (n.up s) (fun x hx => ((v x hx).up s).1) (by rw [kidsL_up s v]; exact t.up s)
theorem TrL.up {K : PySem.W.Frag} {C : Addr} {H H' : Hp} (s : Same H H') : ∀ {ps ls : List Addr}, TrL K C H ps ls → TrL K C H' ps ls
  | _, _, .nil => .nil
  | _, _, .cons h1 h2 => .cons (h1.up s) (h2.up s)
end
end Q8

namespace Q8
open PySem PySem.Spec PyProof.Rows L2
/-! ### d.update(e), e another dict of ours -/
def rUpd : V → List V → Hp → VK → Prop := fun x vs H Q => ∃ (a b : Addr) (kvs more : List (Key × V)), x = .ref a ∧ vs = [.ref b] ∧ a ≠ b ∧ H a = some (.dK kvs) ∧ H b = some (.dK more) ∧ kvs.length + more.length ≤ sizeLine ∧ Q .non (upd H a (.dK (mergeK kvs more)))
theorem mt_update {X : Cx} : MtR X "dict.update" rUpd := by
  intro pins s σ H x vs v us Q I rx rv h
  obtain ⟨a, b, kvs, more, rfl, rfl, hab, ha, hb, hz, q⟩ := h
  obtain rfl : v = Value.ref a := rx
  obtain ⟨u, rfl, ru⟩ := vals1 rv
  obtain rfl : u = Value.ref b := ru
  obtain ⟨z1, hd1, vs1, r1, dd1⟩ := dk_of I.hok ha
  obtain ⟨z2, hd2, vs2, r2, dd2⟩ := dk_of I.hok hb
  refine call_meetsIn PySem.F.slot_dict_update dd1.typeIs PySem.F.entry_dict_update (PySem.F.args_dict_update_2 _ _) (meets_dict_update (mixKind X.prog X.w) a b hab hd2) ⟨vs1, vs2, dd1, dd2, by rw [← r1.length, ← r2.length]; exact hz, fun h' d1 d2 hs => ⟨.non, _, ?_, rfl, q⟩⟩
  have hz' : (mergeK kvs more).length ≤ sizeLine := by
    have h1 := length_mergeK more kvs
    omega
  have he : ∃ q, h'.get? a = some q := let ⟨q, _, _, hq, _⟩ := d1; ⟨q, hq⟩
  exact d_write I (by rw [ha]; exact True.intro) hs he (dk_new hz' hd1 (r2.merge r1) d1)
/-! ### dicts of texts, written in steps -/
def kvOf (rows : List (Str × Str)) : List (Key × V) := rows.map fun p => (.inr p.1, .str p.2)
def putR (A : List (Str × Str)) (k v : Str) : List (Str × Str) := if A.any (fun p => decide (p.1 = k)) = true then A.map (fun p => if p.1 = k then (p.1, v) else p) else A ++ [(k, v)]
def mergeR (A B : List (Str × Str)) : List (Str × Str) := B.foldl (fun acc p => putR acc p.1 p.2) A
theorem putK_of (A : List (Str × Str)) (k v : Str) : putK (kvOf A) (.inr k) (.str v) = kvOf (putR A k v) := by
  have e : (kvOf A).any (fun kv => decide (kv.1 = Sum.inr k)) = A.any (fun p => decide (p.1 = k)) := by
    unfold kvOf
    rw [List.any_map]
    congr 1
    funext p
    show decide ((Sum.inr p.1 : Key) = Sum.inr k) = decide (p.1 = k)
    by_cases h : p.1 = k
    · rw [h]; simp
    · rw [decide_eq_false h, decide_eq_false (fun z => h (Sum.inr.inj z))]
  unfold putK putR
  rw [e]
  by_cases h : A.any (fun p => decide (p.1 = k)) = true
  · rw [if_pos h, if_pos h]
    unfold kvOf
    rw [List.map_map, List.map_map]
    refine List.map_congr_left fun p _ => ?_
    show (if (Sum.inr p.1 : Key) = Sum.inr k then ((Sum.inr p.1 : Key), V.str v) else (Sum.inr p.1, V.str p.2)) = ((Sum.inr (if p.1 = k then (p.1, v) else p).1 : Key), V.str (if p.1 = k then (p.1, v) else p).2)
    by_cases q : p.1 = k
    · rw [if_pos q, if_pos (by rw [q])]
    · rw [if_neg q, if_neg (fun z => q (Sum.inr.inj z))]
  · rw [if_neg h, if_neg h]
    unfold kvOf
    rw [List.map_append]
    rfl
theorem mergeK_of : ∀ (B A : List (Str × Str)), mergeK (kvOf A) (kvOf B) = kvOf (mergeR A B)
  | [], _ => rfl
  | p :: r, A => by
    show mergeK (putK (kvOf A) (.inr p.1) (.str p.2)) (kvOf r) = kvOf (mergeR (putR A p.1 p.2) r)
    rw [putK_of, mergeK_of r]
theorem putR_len (A : List (Str × Str)) (k v : Str) : (putR A k v).length ≤ A.length + 1 := by
  unfold putR
  split
  · rw [List.length_map]; omega
  · simp
theorem mergeR_len : ∀ (B A : List (Str × Str)), (mergeR A B).length ≤ A.length + B.length
  | [], _ => Nat.le_refl _
  | p :: r, A => by
    have h1 := mergeR_len r (putR A p.1 p.2)
    have h2 := putR_len A p.1 p.2
    show (mergeR (putR A p.1 p.2) r).length ≤ _
    rw [List.length_cons]
    omega
/-- a table of texts at p, new since H0 -/
structure Tab (H0 H : Hp) (p : Addr) (rows : List (Str × Str)) : Prop where
  n0 : H0 p = none
  sm : Same H0 H
  at_ : H p = some (.dK (kvOf rows))
theorem Tab.new {H : Hp} {p : Addr} {B : List (Str × Str)} (n : H p = none) : Tab H (upd (upd H p (.dK [])) p (.dK (mergeK [] (kvOf B)))) p (mergeR [] B) := by
  refine ⟨n, fun b o e => ?_, ?_⟩
  · have nb := ne_of_none e n
    rw [upd_ne nb, upd_ne nb]; exact e
  · rw [upd_same]
    exact congrArg some (congrArg HO.dK (mergeK_of B []))
theorem Tab.upd {H0 H : Hp} {p p2 : Addr} {A B : List (Str × Str)} (t : Tab H0 H p A) (n : H p2 = none) :
    Tab H0 (L2.upd (L2.upd (L2.upd H p2 (.dK [])) p2 (.dK (mergeK [] (kvOf B)))) p (.dK (mergeK (kvOf A) (mergeK [] (kvOf B))))) p (mergeR A (mergeR [] B)) := by
  obtain ⟨n0, s, hp⟩ := t
  refine ⟨n0, fun b o e => ?_, ?_⟩
  · have nb : b ≠ p := ne_of_none e n0
    have nb2 : b ≠ p2 := ne_of_none (s _ _ e) n
    rw [upd_ne nb, upd_ne nb2, upd_ne nb2]; exact s _ _ e
  · rw [upd_same, show mergeK [] (kvOf B) = kvOf (mergeR [] B) from mergeK_of B [], mergeK_of]
theorem Tab.put {H0 H : Hp} {p : Addr} {A : List (Str × Str)} {k v : Str} (t : Tab H0 H p A) : Tab H0 (L2.upd H p (.dK (putK (kvOf A) (.inr k) (.str v)))) p (putR A k v) := by
  obtain ⟨n0, s, hp⟩ := t
  refine ⟨n0, fun b o e => ?_, ?_⟩
  · rw [upd_ne (ne_of_none e n0)]; exact s _ _ e
  · rw [upd_same, putK_of]
theorem Tab.up {H0 H H' : Hp} {p : Addr} {A : List (Str × Str)} (t : Tab H0 H p A) (s : Same H H') : Tab H0 H' p A := ⟨t.n0, t.sm.trans s, s _ _ t.at_⟩
theorem Tab.dput {H0 H : Hp} {p : Addr} {A : List (Str × Str)} {k v : Str} (t : Tab H0 H p A) (hl : A.length < 1000) : DPut H p (.str k) (.str v) (L2.upd H p (.dK (putK (kvOf A) (.inr k) (.str v)))) :=
  DPut.k (k := Sum.inr k) t.at_ (by unfold kvOf; rw [List.length_map]; have z : (1000 : Nat) ≤ sizeLine := (by decide); omega)
theorem kvOf_len (A : List (Str × Str)) : (kvOf A).length = A.length := List.length_map _
/-- what such a def promises -/
def spTab (rows : List (Str × Str)) : Sp := fun vs H Q _ => vs = [] ∧ ∀ (H' : Hp) (p : Addr), Tab H H' p rows → Q (.ref p) H'
end Q8

namespace Q8
open PySem PySem.Spec PyProof.Rows L2
theorem len_ok (A B : List (Str × Str)) (h : A.length + B.length ≤ 1000) : (kvOf A).length + (mergeK [] (kvOf B)).length ≤ sizeLine := by
  have e : mergeK [] (kvOf B) = kvOf (mergeR [] B) := mergeK_of B []
  have l := mergeR_len B []
  rw [e, kvOf_len, kvOf_len]
  have z : (1000 : Nat) ≤ sizeLine := by decide
  simp only [List.length_nil] at l
  omega
theorem len_ok2 (A B : List (Str × Str)) (h : A.length + B.length ≤ 1000) : (kvOf A).length + (kvOf B).length ≤ sizeLine := by
  rw [kvOf_len, kvOf_len]
  have z : (1000 : Nat) ≤ sizeLine := by decide
  omega
theorem Tab.mrg {H0 H : Hp} {p : Addr} {A B : List (Str × Str)} (t : Tab H0 H p A) : Tab H0 (L2.upd H p (.dK (mergeK (kvOf A) (kvOf B)))) p (mergeR A B) := by
  obtain ⟨n0, s, hp⟩ := t
  refine ⟨n0, fun b o e => ?_, ?_⟩
  · rw [upd_ne (ne_of_none e n0)]; exact s _ _ e
  · rw [upd_same, mergeK_of]
theorem valV_kvOf (A : List (Str × Str)) (k : Str) : valV (kvOf A) (.inr k) = (A.lookup k).map V.str := by
  induction A with
  | nil => rfl
  | cons p r ih =>
    obtain ⟨a, b⟩ := p
    by_cases e : a = k
    · subst e
      show valV ((Sum.inr a, V.str b) :: kvOf r) (Sum.inr a) = _
      rw [valV_pos rfl]
      simp [List.lookup]
    · show valV ((Sum.inr a, V.str b) :: kvOf r) (Sum.inr k) = _
      rw [valV_neg (fun z => e (Sum.inr.inj z)), ih, List.lookup_cons]
      have n : (k == a) = false := by simpa using fun z : k = a => e z.symm
      rw [n]
theorem Tab.dget {H0 H : Hp} {p : Addr} {A : List (Str × Str)} {k v : Str} (t : Tab H0 H p A) (h : A.lookup k = some v) : DGet H p (.str k) (some (.str v)) := by
  have d := DGet.k (k := Sum.inr k) t.at_
  rw [valV_kvOf, h] at d
  exact d
def PtR0 : List (Str × Str) := [("MatchSequence", "patterns T*"), ("MatchStar", "name N?"), ("MatchValue", "value E")]
def PtT0 : List (Str × Str) := mergeR [] PtR0
def PtR1 : List (Str × Str) := [("MatchAs", "pattern T?;name N?"), ("MatchOr", "patterns T+"), ("MatchSingleton", "value G")]
def PtT1 : List (Str × Str) := mergeR PtT0 (mergeR [] PtR1)
def PtT2 : List (Str × Str) := putR PtT1 "MatchMapping" "keys E*;patterns T*;rest N?"
def PtT3 : List (Str × Str) := putR PtT2 "MatchClass" "cls E;patterns T*;kwd_attrs N*;kwd_patterns T*"
def PatRows : List (Str × Str) := PtT3
abbrev sPt : Stmt := topS 33
theorem scPt : FnScope ["_law_rows"] [] (defScope sPt) := ⟨rfl, rfl, rfl, by decide +kernel, rfl, by decide +kernel, by decide +kernel⟩
theorem ok_pt {P : Program} {w : World} {K : PySem.W.Frag} {mg : Str → Option Value} {base : Heap} {f : Addr} {fd : FuncData} (F : Fun K "_law_pattern_table" "_law_pattern_table" sPt f fd) : FnOk P w K mg base CX0 1 f fd [] (spTab PatRows) := by
  refine F.ok scPt (fun vs H Q E h => ?_) (fun cdv A outer s H vs Q E hr h => ?_)
  · rw [h.1]; rfl
  obtain ⟨rfl, q⟩ := h
  refine ⟨_, pss_cons (ps_set (i := 0) scPt.nd rfl (.inl rfl) (pe_disp (pps_cons pe_str pe_str (pps_cons pe_str pe_str (pps_cons pe_str pe_str pps_nil))) (by rfl) (by rfl) (fun z => by cases z) (by decide)))
    (pss_cons (ps_expr (pe_bm PySem.F.plainAttrs_dict PySem.F.slot_dict_update PySem.F.type_dict_update mt_update (pv 0) (pa_cons (pe_disp (pps_cons pe_str pe_str (pps_cons pe_str pe_str (pps_cons pe_str pe_str pps_nil))) (by rfl) (by rfl) (fun z => by cases z) (by decide)) pa_nil)))
    (pss_cons (ps_dput (hu_of hr) (pv 0) pe_str pe_str (by rfl))
    (pss_cons (ps_dput (hu_of hr) (pv 0) pe_str pe_str (by rfl))
    (pss_one (ps_ret (pv 0)))))), ?_⟩
  refine fun p np => ⟨upd_same, kvOf PtR0, rfl, by decide, ?_⟩
  have t0 : Tab H _ p PtT0 := Tab.new (B := PtR0) np
  generalize upd (upd H p (.dK [])) p (.dK (mergeK [] (kvOf PtR0))) = H0 at t0 ⊢
  refine ⟨_, rfl, .inr (.inr (.inl ⟨rfl, .inl ⟨_, t0.at_⟩⟩)), fun p1 np1 => ?_⟩
  have n1 : p ≠ p1 := ne_of_none t0.at_ np1
  refine ⟨upd_same, kvOf PtR1, rfl, by decide, p, p1, _, _, rfl, rfl, n1, by rw [upd_ne n1, upd_ne n1]; exact t0.at_, upd_same, len_ok _ _ (by decide +kernel), ?_⟩
  have t1 : Tab H _ p PtT1 := t0.upd (B := PtR1) np1
  generalize upd (upd (upd H0 p1 (.dK [])) p1 (.dK (mergeK [] (kvOf PtR1)))) p (.dK (mergeK (kvOf PtT0) (mergeK [] (kvOf PtR1)))) = H1 at t1 ⊢
  refine ⟨_, rfl, p, _, rfl, t1.dput (by decide +kernel), ?_⟩
  have t2 : Tab H _ p PtT2 := t1.put (k := "MatchMapping") (v := "keys E*;patterns T*;rest N?")
  generalize upd H1 p (.dK (putK (kvOf PtT1) (.inr "MatchMapping") (.str "keys E*;patterns T*;rest N?"))) = H2 at t2 ⊢
  refine ⟨_, rfl, p, _, rfl, t2.dput (by decide +kernel), ?_⟩
  have t3 : Tab H _ p PtT3 := t2.put (k := "MatchClass") (v := "cls E;patterns T*;kwd_attrs N*;kwd_patterns T*")
  generalize upd H2 p (.dK (putK (kvOf PtT2) (.inr "MatchClass") (.str "cls E;patterns T*;kwd_attrs N*;kwd_patterns T*"))) = H3 at t3 ⊢
  exact ⟨_, rfl, q H3 p t3⟩
def TbR0 : List (Str × Str) := [("Module", "body S*"), ("Expression", "body E"), ("Return", "value E?"), ("Expr", "value E")]
def TbT0 : List (Str × Str) := mergeR [] TbR0
def TbT1 : List (Str × Str) := putR (putR TbT0 "FunctionDef" "name N;args arguments;body S+;decorator_list E*;returns E?") "AsyncFunctionDef" "name N;args arguments;body S+;decorator_list E*;returns E?"
def TbR2 : List (Str × Str) := [("ClassDef", "name N;bases E*;keywords keyword*;body S+;decorator_list E*")]
def TbT2 : List (Str × Str) := mergeR TbT1 (mergeR [] TbR2)
def TbT3 : List (Str × Str) := putR TbT2 "Delete" "targets E+"
def TbR4 : List (Str × Str) := [("Assign", "targets E+;value E"), ("AnnAssign", "target E;annotation E;value E?;simple B")]
def TbT4 : List (Str × Str) := mergeR TbT3 (mergeR [] TbR4)
def TbR5 : List (Str × Str) := [("AugAssign", "target E;op P;value E"), ("Raise", "exc E?;cause E?")]
def TbT5 : List (Str × Str) := mergeR TbT4 (mergeR [] TbR5)
def TbT6 : List (Str × Str) := putR TbT5 "Assert" "test E;msg E?"
def TbT7 : List (Str × Str) := putR (putR TbT6 "For" "target E;iter E;body S+;orelse S*") "AsyncFor" "target E;iter E;body S+;orelse S*"
def TbT8 : List (Str × Str) := putR (putR TbT7 "With" "items withitem+;body S+") "AsyncWith" "items withitem+;body S+"
def TbT9 : List (Str × Str) := putR (putR TbT8 "While" "test E;body S+;orelse S*") "If" "test E;body S+;orelse S*"
def TbR10 : List (Str × Str) := [("Import", "names alias+"), ("ImportFrom", "module N?;names alias+;level B")]
def TbT10 : List (Str × Str) := mergeR TbT9 (mergeR [] TbR10)
def TbR11 : List (Str × Str) := [("Global", "names N+"), ("Nonlocal", "names N+")]
def TbT11 : List (Str × Str) := mergeR TbT10 (mergeR [] TbR11)
def TbR12 : List (Str × Str) := [("Try", "body S+;handlers ExceptHandler*;orelse S*;finalbody S*")]
def TbT12 : List (Str × Str) := mergeR TbT11 (mergeR [] TbR12)
def TbR13 : List (Str × Str) := [("Match", "subject E;cases match_case+"), ("match_case", "pattern T;guard E?;body S+")]
def TbT13 : List (Str × Str) := mergeR TbT12 (mergeR [] TbR13)
def TbR14 : List (Str × Str) := [("BoolOp", "op O;values E+"), ("BinOp", "left E;op P;right E"), ("UnaryOp", "op U;operand E")]
def TbT14 : List (Str × Str) := mergeR TbT13 (mergeR [] TbR14)
def TbR15 : List (Str × Str) := [("NamedExpr", "target E;value E"), ("IfExp", "test E;body E;orelse E"), ("Set", "elts E+")]
def TbT15 : List (Str × Str) := mergeR TbT14 (mergeR [] TbR15)
def TbR16 : List (Str × Str) := [("Lambda", "args arguments;body E"), ("Dict", "keys E?*;values E*"), ("Name", "id N;ctx X")]
def TbT16 : List (Str × Str) := mergeR TbT15 (mergeR [] TbR16)
def TbR17 : List (Str × Str) := [("Await", "value E"), ("Yield", "value E?"), ("YieldFrom", "value E"), ("Starred", "value E;ctx X")]
def TbT17 : List (Str × Str) := mergeR TbT16 (mergeR [] TbR17)
def TbR18 : List (Str × Str) := [("Compare", "left E;ops C+;comparators E+"), ("Call", "func E;args E*;keywords keyword*")]
def TbT18 : List (Str × Str) := mergeR TbT17 (mergeR [] TbR18)
def TbR19 : List (Str × Str) := [("Constant", "value V"), ("Attribute", "value E;attr N;ctx X"), ("List", "elts E*;ctx X")]
def TbT19 : List (Str × Str) := mergeR TbT18 (mergeR [] TbR19)
def TbR20 : List (Str × Str) := [("Subscript", "value E;slice E;ctx X"), ("Slice", "lower E?;upper E?;step E?")]
def TbT20 : List (Str × Str) := mergeR TbT19 (mergeR [] TbR20)
def TbR21 : List (Str × Str) := [("FormattedValue", "value E;conversion W;format_spec JoinedStr?")]
def TbT21 : List (Str × Str) := mergeR TbT20 (mergeR [] TbR21)
def TbR22 : List (Str × Str) := [("JoinedStr", "values E*"), ("Tuple", "elts E*;ctx X")]
def TbT22 : List (Str × Str) := mergeR TbT21 (mergeR [] TbR22)
def TbT23 : List (Str × Str) := putR (putR (putR TbT22 "ListComp" "elt E;generators comprehension+") "SetComp" "elt E;generators comprehension+") "GeneratorExp" "elt E;generators comprehension+"
def TbR24 : List (Str × Str) := [("DictComp", "key E;value E;generators comprehension+"), ("keyword", "arg N?;value E")]
def TbT24 : List (Str × Str) := mergeR TbT23 (mergeR [] TbR24)
def TbR25 : List (Str × Str) := [("comprehension", "target E;iter E;ifs E*;is_async B"), ("alias", "name N;asname N?")]
def TbT25 : List (Str × Str) := mergeR TbT24 (mergeR [] TbR25)
def TbR26 : List (Str × Str) := [("ExceptHandler", "exc E?;name N?;body S+"), ("arg", "arg N;annotation E?")]
def TbT26 : List (Str × Str) := mergeR TbT25 (mergeR [] TbR26)
def TbT27 : List (Str × Str) := putR TbT26 "arguments" "posonlyargs arg*;args arg*;vararg arg?;kwonlyargs arg*;kw_defaults E?*;kwarg arg?"
def TbT28 : List (Str × Str) := putR TbT27 "arguments" ("posonlyargs arg*;args arg*;vararg arg?;kwonlyargs arg*;kw_defaults E?*;kwarg arg?" ++ ";defaults E*")
def TbR29 : List (Str × Str) := [("withitem", "context_expr E;optional_vars E?")]
def TbT29 : List (Str × Str) := mergeR TbT28 (mergeR [] TbR29)
def TbT30 : List (Str × Str) := mergeR TbT29 PatRows
def TblRows : List (Str × Str) := TbT30
abbrev sTb : Stmt := topS 32
theorem scTb : FnScope ["_law_rows", "_law_kind"] [] (defScope sTb) := ⟨rfl, rfl, rfl, by decide +kernel, rfl, by decide +kernel, by decide +kernel⟩
theorem ok_tb {P : Program} {w : World} {K : PySem.W.Frag} {mg : Str → Option Value} {base : Heap} {f fP : Addr} {fd dP : FuncData} (F : Fun K "_law_table" "_law_table" sTb f fd)
    (PT : FnOk P w K mg base CX0 1 fP dP [] (spTab PatRows)) (bPT : Binds K dP [] []) (kPT : PySem.W.keepIn K (.ref fP) = true) (mPT : mg "_law_pattern_table" = some (.ref fP)) : FnOk P w K mg base CX0 2 f fd [] (spTab TblRows) := by
  refine F.ok scTb (fun vs H Q E h => ?_) (fun cdv A outer s H vs Q E hr h => ?_)
  · rw [h.1]; rfl
  obtain ⟨rfl, q⟩ := h
  refine ⟨_, pss_cons (ps_set (i := 0) scTb.nd rfl (.inl rfl) (pe_disp (pps_cons pe_str pe_str (pps_cons pe_str pe_str (pps_cons pe_str pe_str (pps_cons pe_str pe_str pps_nil)))) (by rfl) (by rfl) (fun z => by cases z) (by decide)))
    (pss_cons (ps_for PassesOwn.never rfl (pi_tup (pe_tup (pa_cons pe_str (pa_cons pe_str pa_nil)))) (pg_name (i := 1) scTb.nd rfl (.inl rfl)) (pss_one (ps_dput (hu_of hr) (pv 0) (pv 1) pe_str (by rfl))))
    (pss_cons (ps_expr (pe_bm PySem.F.plainAttrs_dict PySem.F.slot_dict_update PySem.F.type_dict_update mt_update (pv 0) (pa_cons (pe_disp (pps_cons pe_str pe_str pps_nil) (by rfl) (by rfl) (fun z => by cases z) (by decide)) pa_nil)))
    (pss_cons (ps_dput (hu_of hr) (pv 0) pe_str pe_str (by rfl))
    (pss_cons (ps_expr (pe_bm PySem.F.plainAttrs_dict PySem.F.slot_dict_update PySem.F.type_dict_update mt_update (pv 0) (pa_cons (pe_disp (pps_cons pe_str pe_str (pps_cons pe_str pe_str pps_nil)) (by rfl) (by rfl) (fun z => by cases z) (by decide)) pa_nil)))
    (pss_cons (ps_expr (pe_bm PySem.F.plainAttrs_dict PySem.F.slot_dict_update PySem.F.type_dict_update mt_update (pv 0) (pa_cons (pe_disp (pps_cons pe_str pe_str (pps_cons pe_str pe_str pps_nil)) (by rfl) (by rfl) (fun z => by cases z) (by decide)) pa_nil)))
    (pss_cons (ps_dput (hu_of hr) (pv 0) pe_str pe_str (by rfl))
    (pss_cons (ps_for PassesOwn.never rfl (pi_tup (pe_tup (pa_cons pe_str (pa_cons pe_str pa_nil)))) (pg_name (i := 1) scTb.nd rfl (.inl rfl)) (pss_one (ps_dput (hu_of hr) (pv 0) (pv 1) pe_str (by rfl))))
    (pss_cons (ps_for PassesOwn.never rfl (pi_tup (pe_tup (pa_cons pe_str (pa_cons pe_str pa_nil)))) (pg_name (i := 1) scTb.nd rfl (.inl rfl)) (pss_one (ps_dput (hu_of hr) (pv 0) (pv 1) pe_str (by rfl))))
    (pss_cons (ps_for PassesOwn.never rfl (pi_tup (pe_tup (pa_cons pe_str (pa_cons pe_str pa_nil)))) (pg_name (i := 1) scTb.nd rfl (.inl rfl)) (pss_one (ps_dput (hu_of hr) (pv 0) (pv 1) pe_str (by rfl))))
    (pss_cons (ps_expr (pe_bm PySem.F.plainAttrs_dict PySem.F.slot_dict_update PySem.F.type_dict_update mt_update (pv 0) (pa_cons (pe_disp (pps_cons pe_str pe_str (pps_cons pe_str pe_str pps_nil)) (by rfl) (by rfl) (fun z => by cases z) (by decide)) pa_nil)))
    (pss_cons (ps_expr (pe_bm PySem.F.plainAttrs_dict PySem.F.slot_dict_update PySem.F.type_dict_update mt_update (pv 0) (pa_cons (pe_disp (pps_cons pe_str pe_str (pps_cons pe_str pe_str pps_nil)) (by rfl) (by rfl) (fun z => by cases z) (by decide)) pa_nil)))
    (pss_cons (ps_expr (pe_bm PySem.F.plainAttrs_dict PySem.F.slot_dict_update PySem.F.type_dict_update mt_update (pv 0) (pa_cons (pe_disp (pps_cons pe_str pe_str pps_nil) (by rfl) (by rfl) (fun z => by cases z) (by decide)) pa_nil)))
    (pss_cons (ps_expr (pe_bm PySem.F.plainAttrs_dict PySem.F.slot_dict_update PySem.F.type_dict_update mt_update (pv 0) (pa_cons (pe_disp (pps_cons pe_str pe_str (pps_cons pe_str pe_str pps_nil)) (by rfl) (by rfl) (fun z => by cases z) (by decide)) pa_nil)))
    (pss_cons (ps_expr (pe_bm PySem.F.plainAttrs_dict PySem.F.slot_dict_update PySem.F.type_dict_update mt_update (pv 0) (pa_cons (pe_disp (pps_cons pe_str pe_str (pps_cons pe_str pe_str (pps_cons pe_str pe_str pps_nil))) (by rfl) (by rfl) (fun z => by cases z) (by decide)) pa_nil)))
    (pss_cons (ps_expr (pe_bm PySem.F.plainAttrs_dict PySem.F.slot_dict_update PySem.F.type_dict_update mt_update (pv 0) (pa_cons (pe_disp (pps_cons pe_str pe_str (pps_cons pe_str pe_str (pps_cons pe_str pe_str pps_nil))) (by rfl) (by rfl) (fun z => by cases z) (by decide)) pa_nil)))
    (pss_cons (ps_expr (pe_bm PySem.F.plainAttrs_dict PySem.F.slot_dict_update PySem.F.type_dict_update mt_update (pv 0) (pa_cons (pe_disp (pps_cons pe_str pe_str (pps_cons pe_str pe_str (pps_cons pe_str pe_str pps_nil))) (by rfl) (by rfl) (fun z => by cases z) (by decide)) pa_nil)))
    (pss_cons (ps_expr (pe_bm PySem.F.plainAttrs_dict PySem.F.slot_dict_update PySem.F.type_dict_update mt_update (pv 0) (pa_cons (pe_disp (pps_cons pe_str pe_str (pps_cons pe_str pe_str (pps_cons pe_str pe_str (pps_cons pe_str pe_str pps_nil)))) (by rfl) (by rfl) (fun z => by cases z) (by decide)) pa_nil)))
    (pss_cons (ps_expr (pe_bm PySem.F.plainAttrs_dict PySem.F.slot_dict_update PySem.F.type_dict_update mt_update (pv 0) (pa_cons (pe_disp (pps_cons pe_str pe_str (pps_cons pe_str pe_str pps_nil)) (by rfl) (by rfl) (fun z => by cases z) (by decide)) pa_nil)))
    (pss_cons (ps_expr (pe_bm PySem.F.plainAttrs_dict PySem.F.slot_dict_update PySem.F.type_dict_update mt_update (pv 0) (pa_cons (pe_disp (pps_cons pe_str pe_str (pps_cons pe_str pe_str (pps_cons pe_str pe_str pps_nil))) (by rfl) (by rfl) (fun z => by cases z) (by decide)) pa_nil)))
    (pss_cons (ps_expr (pe_bm PySem.F.plainAttrs_dict PySem.F.slot_dict_update PySem.F.type_dict_update mt_update (pv 0) (pa_cons (pe_disp (pps_cons pe_str pe_str (pps_cons pe_str pe_str pps_nil)) (by rfl) (by rfl) (fun z => by cases z) (by decide)) pa_nil)))
    (pss_cons (ps_expr (pe_bm PySem.F.plainAttrs_dict PySem.F.slot_dict_update PySem.F.type_dict_update mt_update (pv 0) (pa_cons (pe_disp (pps_cons pe_str pe_str pps_nil) (by rfl) (by rfl) (fun z => by cases z) (by decide)) pa_nil)))
    (pss_cons (ps_expr (pe_bm PySem.F.plainAttrs_dict PySem.F.slot_dict_update PySem.F.type_dict_update mt_update (pv 0) (pa_cons (pe_disp (pps_cons pe_str pe_str (pps_cons pe_str pe_str pps_nil)) (by rfl) (by rfl) (fun z => by cases z) (by decide)) pa_nil)))
    (pss_cons (ps_for PassesOwn.never rfl (pi_tup (pe_tup (pa_cons pe_str (pa_cons pe_str (pa_cons pe_str pa_nil))))) (pg_name (i := 1) scTb.nd rfl (.inl rfl)) (pss_one (ps_dput (hu_of hr) (pv 0) (pv 1) pe_str (by rfl))))
    (pss_cons (ps_expr (pe_bm PySem.F.plainAttrs_dict PySem.F.slot_dict_update PySem.F.type_dict_update mt_update (pv 0) (pa_cons (pe_disp (pps_cons pe_str pe_str (pps_cons pe_str pe_str pps_nil)) (by rfl) (by rfl) (fun z => by cases z) (by decide)) pa_nil)))
    (pss_cons (ps_expr (pe_bm PySem.F.plainAttrs_dict PySem.F.slot_dict_update PySem.F.type_dict_update mt_update (pv 0) (pa_cons (pe_disp (pps_cons pe_str pe_str (pps_cons pe_str pe_str pps_nil)) (by rfl) (by rfl) (fun z => by cases z) (by decide)) pa_nil)))
    (pss_cons (ps_expr (pe_bm PySem.F.plainAttrs_dict PySem.F.slot_dict_update PySem.F.type_dict_update mt_update (pv 0) (pa_cons (pe_disp (pps_cons pe_str pe_str (pps_cons pe_str pe_str pps_nil)) (by rfl) (by rfl) (fun z => by cases z) (by decide)) pa_nil)))
    (pss_cons (ps_dput (hu_of hr) (pv 0) pe_str pe_str (by rfl))
    (pss_cons (ps_dput (hu_of hr) (pv 0) pe_str (pe_op op_add_str (pe_dget (hu_of hr) (pv 0) pe_str (fun _ _ => rfl)) pe_str) (by rfl))
    (pss_cons (ps_expr (pe_bm PySem.F.plainAttrs_dict PySem.F.slot_dict_update PySem.F.type_dict_update mt_update (pv 0) (pa_cons (pe_disp (pps_cons pe_str pe_str pps_nil) (by rfl) (by rfl) (fun z => by cases z) (by decide)) pa_nil)))
    (pss_cons (ps_expr (pe_bm PySem.F.plainAttrs_dict PySem.F.slot_dict_update PySem.F.type_dict_update mt_update (pv 0) (pa_cons (pe_call0 PT hr (by rfl) mPT kPT bPT .nil pass0) pa_nil)))
    (pss_one (ps_ret (pv 0))))))))))))))))))))))))))))))))), ?_⟩
  refine fun p np => ⟨upd_same, kvOf TbR0, rfl, by decide, ?_⟩
  have t0 : Tab H _ p TbT0 := Tab.new (B := TbR0) np
  generalize upd (upd H p (.dK [])) p (.dK (mergeK [] (kvOf TbR0))) = H0 at t0 ⊢
  refine ⟨by show 2 ≤ sizeLine; decide, fun tu1 ntu1 => ⟨tu1, rfl, ⟨_, SqT.of upd_same⟩, ?_⟩⟩
  have u1 : Tab H (upd H0 tu1 (.tup [.str "FunctionDef", .str "AsyncFunctionDef"])) p TbT0 := t0.up (same_new ntu1)
  have hU1 : (upd H0 tu1 (.tup [.str "FunctionDef", .str "AsyncFunctionDef"])) tu1 = some (.tup [.str "FunctionDef", .str "AsyncFunctionDef"]) := upd_same
  generalize upd H0 tu1 (.tup [.str "FunctionDef", .str "AsyncFunctionDef"]) = G1 at u1 hU1 ⊢
  have nU1 : tu1 ≠ p := fun z => by rw [z, u1.at_] at hU1; cases hU1
  refine for_tup (K := K) (a := tu1) (xs := [.str "FunctionDef", .str "AsyncFunctionDef"]) (fun i σ H' => ∃ y, σ = [some (.ref p), y] ∧ Tab H H' p ((fun j : Nat => match j with | 0 => TbT0 | 1 => putR (TbT0) "FunctionDef" "name N;args arguments;body S+;decorator_list E*;returns E?" | _ => TbT1) i) ∧ ∀ b o, b ≠ p → G1 b = some o → H' b = some o) ⟨_, rfl, u1, fun b o _ e => e⟩ (fun i σ H' _ ⟨_, _, _, k⟩ => SqT.of (k _ _ nU1 hU1)) ?_ ?_
  · rintro i x σ H' hx ⟨y, rfl, t', k'⟩
    obtain ⟨kd, rfl, eR, hlen⟩ : ∃ kd : Str, x = .str kd ∧ (fun j : Nat => match j with | 0 => TbT0 | 1 => putR (TbT0) "FunctionDef" "name N;args arguments;body S+;decorator_list E*;returns E?" | _ => TbT1) (i + 1) = putR ((fun j : Nat => match j with | 0 => TbT0 | 1 => putR (TbT0) "FunctionDef" "name N;args arguments;body S+;decorator_list E*;returns E?" | _ => TbT1) i) kd "name N;args arguments;body S+;decorator_list E*;returns E?" ∧ ((fun j : Nat => match j with | 0 => TbT0 | 1 => putR (TbT0) "FunctionDef" "name N;args arguments;body S+;decorator_list E*;returns E?" | _ => TbT1) i).length < 1000 := by
      rcases i with _ | _ | i
      · cases hx; exact ⟨"FunctionDef", rfl, rfl, by decide +kernel⟩
      · cases hx; exact ⟨"AsyncFunctionDef", rfl, rfl, by decide +kernel⟩
      · simp at hx
    refine ⟨_, rfl, _, rfl, p, _, rfl, t'.dput hlen, _, rfl, by rw [eR]; exact t'.put, fun b o nb e => ?_⟩
    rw [upd_ne nb]; exact k' b o nb e
  rintro σ H1 ⟨y1, rfl, t1, _⟩
  have t1 : Tab H H1 p TbT1 := t1
  refine ⟨_, rfl, .inr (.inr (.inl ⟨rfl, .inl ⟨_, t1.at_⟩⟩)), fun p2 np2 => ?_⟩
  have n2 : p ≠ p2 := ne_of_none t1.at_ np2
  refine ⟨upd_same, kvOf TbR2, rfl, by decide, p, p2, _, _, rfl, rfl, n2, by rw [upd_ne n2, upd_ne n2]; exact t1.at_, upd_same, len_ok _ _ (by decide +kernel), ?_⟩
  have t2 : Tab H _ p TbT2 := t1.upd (B := TbR2) np2
  generalize upd (upd (upd H1 p2 (.dK [])) p2 (.dK (mergeK [] (kvOf TbR2)))) p (.dK (mergeK (kvOf TbT1) (mergeK [] (kvOf TbR2)))) = H2 at t2 ⊢
  refine ⟨_, rfl, p, _, rfl, t2.dput (by decide +kernel), ?_⟩
  have t3 : Tab H _ p TbT3 := t2.put (k := "Delete") (v := "targets E+")
  generalize upd H2 p (.dK (putK (kvOf TbT2) (.inr "Delete") (.str "targets E+"))) = H3 at t3 ⊢
  refine ⟨_, rfl, .inr (.inr (.inl ⟨rfl, .inl ⟨_, t3.at_⟩⟩)), fun p4 np4 => ?_⟩
  have n4 : p ≠ p4 := ne_of_none t3.at_ np4
  refine ⟨upd_same, kvOf TbR4, rfl, by decide, p, p4, _, _, rfl, rfl, n4, by rw [upd_ne n4, upd_ne n4]; exact t3.at_, upd_same, len_ok _ _ (by decide +kernel), ?_⟩
  have t4 : Tab H _ p TbT4 := t3.upd (B := TbR4) np4
  generalize upd (upd (upd H3 p4 (.dK [])) p4 (.dK (mergeK [] (kvOf TbR4)))) p (.dK (mergeK (kvOf TbT3) (mergeK [] (kvOf TbR4)))) = H4 at t4 ⊢
  refine ⟨_, rfl, .inr (.inr (.inl ⟨rfl, .inl ⟨_, t4.at_⟩⟩)), fun p5 np5 => ?_⟩
  have n5 : p ≠ p5 := ne_of_none t4.at_ np5
  refine ⟨upd_same, kvOf TbR5, rfl, by decide, p, p5, _, _, rfl, rfl, n5, by rw [upd_ne n5, upd_ne n5]; exact t4.at_, upd_same, len_ok _ _ (by decide +kernel), ?_⟩
  have t5 : Tab H _ p TbT5 := t4.upd (B := TbR5) np5
  generalize upd (upd (upd H4 p5 (.dK [])) p5 (.dK (mergeK [] (kvOf TbR5)))) p (.dK (mergeK (kvOf TbT4) (mergeK [] (kvOf TbR5)))) = H5 at t5 ⊢
  refine ⟨_, rfl, p, _, rfl, t5.dput (by decide +kernel), ?_⟩
  have t6 : Tab H _ p TbT6 := t5.put (k := "Assert") (v := "test E;msg E?")
  generalize upd H5 p (.dK (putK (kvOf TbT5) (.inr "Assert") (.str "test E;msg E?"))) = H6 at t6 ⊢
  refine ⟨by show 2 ≤ sizeLine; decide, fun tu7 ntu7 => ⟨tu7, rfl, ⟨_, SqT.of upd_same⟩, ?_⟩⟩
  have u7 : Tab H (upd H6 tu7 (.tup [.str "For", .str "AsyncFor"])) p TbT6 := t6.up (same_new ntu7)
  have hU7 : (upd H6 tu7 (.tup [.str "For", .str "AsyncFor"])) tu7 = some (.tup [.str "For", .str "AsyncFor"]) := upd_same
  generalize upd H6 tu7 (.tup [.str "For", .str "AsyncFor"]) = G7 at u7 hU7 ⊢
  have nU7 : tu7 ≠ p := fun z => by rw [z, u7.at_] at hU7; cases hU7
  refine for_tup (K := K) (a := tu7) (xs := [.str "For", .str "AsyncFor"]) (fun i σ H' => ∃ y, σ = [some (.ref p), y] ∧ Tab H H' p ((fun j : Nat => match j with | 0 => TbT6 | 1 => putR (TbT6) "For" "target E;iter E;body S+;orelse S*" | _ => TbT7) i) ∧ ∀ b o, b ≠ p → G7 b = some o → H' b = some o) ⟨_, rfl, u7, fun b o _ e => e⟩ (fun i σ H' _ ⟨_, _, _, k⟩ => SqT.of (k _ _ nU7 hU7)) ?_ ?_
  · rintro i x σ H' hx ⟨y, rfl, t', k'⟩
    obtain ⟨kd, rfl, eR, hlen⟩ : ∃ kd : Str, x = .str kd ∧ (fun j : Nat => match j with | 0 => TbT6 | 1 => putR (TbT6) "For" "target E;iter E;body S+;orelse S*" | _ => TbT7) (i + 1) = putR ((fun j : Nat => match j with | 0 => TbT6 | 1 => putR (TbT6) "For" "target E;iter E;body S+;orelse S*" | _ => TbT7) i) kd "target E;iter E;body S+;orelse S*" ∧ ((fun j : Nat => match j with | 0 => TbT6 | 1 => putR (TbT6) "For" "target E;iter E;body S+;orelse S*" | _ => TbT7) i).length < 1000 := by
      rcases i with _ | _ | i
      · cases hx; exact ⟨"For", rfl, rfl, by decide +kernel⟩
      · cases hx; exact ⟨"AsyncFor", rfl, rfl, by decide +kernel⟩
      · simp at hx
    refine ⟨_, rfl, _, rfl, p, _, rfl, t'.dput hlen, _, rfl, by rw [eR]; exact t'.put, fun b o nb e => ?_⟩
    rw [upd_ne nb]; exact k' b o nb e
  rintro σ H7 ⟨y7, rfl, t7, _⟩
  have t7 : Tab H H7 p TbT7 := t7
  refine ⟨by show 2 ≤ sizeLine; decide, fun tu8 ntu8 => ⟨tu8, rfl, ⟨_, SqT.of upd_same⟩, ?_⟩⟩
  have u8 : Tab H (upd H7 tu8 (.tup [.str "With", .str "AsyncWith"])) p TbT7 := t7.up (same_new ntu8)
  have hU8 : (upd H7 tu8 (.tup [.str "With", .str "AsyncWith"])) tu8 = some (.tup [.str "With", .str "AsyncWith"]) := upd_same
  generalize upd H7 tu8 (.tup [.str "With", .str "AsyncWith"]) = G8 at u8 hU8 ⊢
  have nU8 : tu8 ≠ p := fun z => by rw [z, u8.at_] at hU8; cases hU8
  refine for_tup (K := K) (a := tu8) (xs := [.str "With", .str "AsyncWith"]) (fun i σ H' => ∃ y, σ = [some (.ref p), y] ∧ Tab H H' p ((fun j : Nat => match j with | 0 => TbT7 | 1 => putR (TbT7) "With" "items withitem+;body S+" | _ => TbT8) i) ∧ ∀ b o, b ≠ p → G8 b = some o → H' b = some o) ⟨_, rfl, u8, fun b o _ e => e⟩ (fun i σ H' _ ⟨_, _, _, k⟩ => SqT.of (k _ _ nU8 hU8)) ?_ ?_
  · rintro i x σ H' hx ⟨y, rfl, t', k'⟩
    obtain ⟨kd, rfl, eR, hlen⟩ : ∃ kd : Str, x = .str kd ∧ (fun j : Nat => match j with | 0 => TbT7 | 1 => putR (TbT7) "With" "items withitem+;body S+" | _ => TbT8) (i + 1) = putR ((fun j : Nat => match j with | 0 => TbT7 | 1 => putR (TbT7) "With" "items withitem+;body S+" | _ => TbT8) i) kd "items withitem+;body S+" ∧ ((fun j : Nat => match j with | 0 => TbT7 | 1 => putR (TbT7) "With" "items withitem+;body S+" | _ => TbT8) i).length < 1000 := by
      rcases i with _ | _ | i
      · cases hx; exact ⟨"With", rfl, rfl, by decide +kernel⟩
      · cases hx; exact ⟨"AsyncWith", rfl, rfl, by decide +kernel⟩
      · simp at hx
    refine ⟨_, rfl, _, rfl, p, _, rfl, t'.dput hlen, _, rfl, by rw [eR]; exact t'.put, fun b o nb e => ?_⟩
    rw [upd_ne nb]; exact k' b o nb e
  rintro σ H8 ⟨y8, rfl, t8, _⟩
  have t8 : Tab H H8 p TbT8 := t8
  refine ⟨by show 2 ≤ sizeLine; decide, fun tu9 ntu9 => ⟨tu9, rfl, ⟨_, SqT.of upd_same⟩, ?_⟩⟩
  have u9 : Tab H (upd H8 tu9 (.tup [.str "While", .str "If"])) p TbT8 := t8.up (same_new ntu9)
  have hU9 : (upd H8 tu9 (.tup [.str "While", .str "If"])) tu9 = some (.tup [.str "While", .str "If"]) := upd_same
  generalize upd H8 tu9 (.tup [.str "While", .str "If"]) = G9 at u9 hU9 ⊢
  have nU9 : tu9 ≠ p := fun z => by rw [z, u9.at_] at hU9; cases hU9
  refine for_tup (K := K) (a := tu9) (xs := [.str "While", .str "If"]) (fun i σ H' => ∃ y, σ = [some (.ref p), y] ∧ Tab H H' p ((fun j : Nat => match j with | 0 => TbT8 | 1 => putR (TbT8) "While" "test E;body S+;orelse S*" | _ => TbT9) i) ∧ ∀ b o, b ≠ p → G9 b = some o → H' b = some o) ⟨_, rfl, u9, fun b o _ e => e⟩ (fun i σ H' _ ⟨_, _, _, k⟩ => SqT.of (k _ _ nU9 hU9)) ?_ ?_
  · rintro i x σ H' hx ⟨y, rfl, t', k'⟩
    obtain ⟨kd, rfl, eR, hlen⟩ : ∃ kd : Str, x = .str kd ∧ (fun j : Nat => match j with | 0 => TbT8 | 1 => putR (TbT8) "While" "test E;body S+;orelse S*" | _ => TbT9) (i + 1) = putR ((fun j : Nat => match j with | 0 => TbT8 | 1 => putR (TbT8) "While" "test E;body S+;orelse S*" | _ => TbT9) i) kd "test E;body S+;orelse S*" ∧ ((fun j : Nat => match j with | 0 => TbT8 | 1 => putR (TbT8) "While" "test E;body S+;orelse S*" | _ => TbT9) i).length < 1000 := by
      rcases i with _ | _ | i
      · cases hx; exact ⟨"While", rfl, rfl, by decide +kernel⟩
      · cases hx; exact ⟨"If", rfl, rfl, by decide +kernel⟩
      · simp at hx
    refine ⟨_, rfl, _, rfl, p, _, rfl, t'.dput hlen, _, rfl, by rw [eR]; exact t'.put, fun b o nb e => ?_⟩
    rw [upd_ne nb]; exact k' b o nb e
  rintro σ H9 ⟨y9, rfl, t9, _⟩
  have t9 : Tab H H9 p TbT9 := t9
  refine ⟨_, rfl, .inr (.inr (.inl ⟨rfl, .inl ⟨_, t9.at_⟩⟩)), fun p10 np10 => ?_⟩
  have n10 : p ≠ p10 := ne_of_none t9.at_ np10
  refine ⟨upd_same, kvOf TbR10, rfl, by decide, p, p10, _, _, rfl, rfl, n10, by rw [upd_ne n10, upd_ne n10]; exact t9.at_, upd_same, len_ok _ _ (by decide +kernel), ?_⟩
  have t10 : Tab H _ p TbT10 := t9.upd (B := TbR10) np10
  generalize upd (upd (upd H9 p10 (.dK [])) p10 (.dK (mergeK [] (kvOf TbR10)))) p (.dK (mergeK (kvOf TbT9) (mergeK [] (kvOf TbR10)))) = H10 at t10 ⊢
  refine ⟨_, rfl, .inr (.inr (.inl ⟨rfl, .inl ⟨_, t10.at_⟩⟩)), fun p11 np11 => ?_⟩
  have n11 : p ≠ p11 := ne_of_none t10.at_ np11
  refine ⟨upd_same, kvOf TbR11, rfl, by decide, p, p11, _, _, rfl, rfl, n11, by rw [upd_ne n11, upd_ne n11]; exact t10.at_, upd_same, len_ok _ _ (by decide +kernel), ?_⟩
  have t11 : Tab H _ p TbT11 := t10.upd (B := TbR11) np11
  generalize upd (upd (upd H10 p11 (.dK [])) p11 (.dK (mergeK [] (kvOf TbR11)))) p (.dK (mergeK (kvOf TbT10) (mergeK [] (kvOf TbR11)))) = H11 at t11 ⊢
  refine ⟨_, rfl, .inr (.inr (.inl ⟨rfl, .inl ⟨_, t11.at_⟩⟩)), fun p12 np12 => ?_⟩
  have n12 : p ≠ p12 := ne_of_none t11.at_ np12
  refine ⟨upd_same, kvOf TbR12, rfl, by decide, p, p12, _, _, rfl, rfl, n12, by rw [upd_ne n12, upd_ne n12]; exact t11.at_, upd_same, len_ok _ _ (by decide +kernel), ?_⟩
  have t12 : Tab H _ p TbT12 := t11.upd (B := TbR12) np12
  generalize upd (upd (upd H11 p12 (.dK [])) p12 (.dK (mergeK [] (kvOf TbR12)))) p (.dK (mergeK (kvOf TbT11) (mergeK [] (kvOf TbR12)))) = H12 at t12 ⊢
  refine ⟨_, rfl, .inr (.inr (.inl ⟨rfl, .inl ⟨_, t12.at_⟩⟩)), fun p13 np13 => ?_⟩
  have n13 : p ≠ p13 := ne_of_none t12.at_ np13
  refine ⟨upd_same, kvOf TbR13, rfl, by decide, p, p13, _, _, rfl, rfl, n13, by rw [upd_ne n13, upd_ne n13]; exact t12.at_, upd_same, len_ok _ _ (by decide +kernel), ?_⟩
  have t13 : Tab H _ p TbT13 := t12.upd (B := TbR13) np13
  generalize upd (upd (upd H12 p13 (.dK [])) p13 (.dK (mergeK [] (kvOf TbR13)))) p (.dK (mergeK (kvOf TbT12) (mergeK [] (kvOf TbR13)))) = H13 at t13 ⊢
  refine ⟨_, rfl, .inr (.inr (.inl ⟨rfl, .inl ⟨_, t13.at_⟩⟩)), fun p14 np14 => ?_⟩
  have n14 : p ≠ p14 := ne_of_none t13.at_ np14
  refine ⟨upd_same, kvOf TbR14, rfl, by decide, p, p14, _, _, rfl, rfl, n14, by rw [upd_ne n14, upd_ne n14]; exact t13.at_, upd_same, len_ok _ _ (by decide +kernel), ?_⟩
  have t14 : Tab H _ p TbT14 := t13.upd (B := TbR14) np14
  generalize upd (upd (upd H13 p14 (.dK [])) p14 (.dK (mergeK [] (kvOf TbR14)))) p (.dK (mergeK (kvOf TbT13) (mergeK [] (kvOf TbR14)))) = H14 at t14 ⊢
  refine ⟨_, rfl, .inr (.inr (.inl ⟨rfl, .inl ⟨_, t14.at_⟩⟩)), fun p15 np15 => ?_⟩
  have n15 : p ≠ p15 := ne_of_none t14.at_ np15
  refine ⟨upd_same, kvOf TbR15, rfl, by decide, p, p15, _, _, rfl, rfl, n15, by rw [upd_ne n15, upd_ne n15]; exact t14.at_, upd_same, len_ok _ _ (by decide +kernel), ?_⟩
  have t15 : Tab H _ p TbT15 := t14.upd (B := TbR15) np15
  generalize upd (upd (upd H14 p15 (.dK [])) p15 (.dK (mergeK [] (kvOf TbR15)))) p (.dK (mergeK (kvOf TbT14) (mergeK [] (kvOf TbR15)))) = H15 at t15 ⊢
  refine ⟨_, rfl, .inr (.inr (.inl ⟨rfl, .inl ⟨_, t15.at_⟩⟩)), fun p16 np16 => ?_⟩
  have n16 : p ≠ p16 := ne_of_none t15.at_ np16
  refine ⟨upd_same, kvOf TbR16, rfl, by decide, p, p16, _, _, rfl, rfl, n16, by rw [upd_ne n16, upd_ne n16]; exact t15.at_, upd_same, len_ok _ _ (by decide +kernel), ?_⟩
  have t16 : Tab H _ p TbT16 := t15.upd (B := TbR16) np16
  generalize upd (upd (upd H15 p16 (.dK [])) p16 (.dK (mergeK [] (kvOf TbR16)))) p (.dK (mergeK (kvOf TbT15) (mergeK [] (kvOf TbR16)))) = H16 at t16 ⊢
  refine ⟨_, rfl, .inr (.inr (.inl ⟨rfl, .inl ⟨_, t16.at_⟩⟩)), fun p17 np17 => ?_⟩
  have n17 : p ≠ p17 := ne_of_none t16.at_ np17
  refine ⟨upd_same, kvOf TbR17, rfl, by decide, p, p17, _, _, rfl, rfl, n17, by rw [upd_ne n17, upd_ne n17]; exact t16.at_, upd_same, len_ok _ _ (by decide +kernel), ?_⟩
  have t17 : Tab H _ p TbT17 := t16.upd (B := TbR17) np17
  generalize upd (upd (upd H16 p17 (.dK [])) p17 (.dK (mergeK [] (kvOf TbR17)))) p (.dK (mergeK (kvOf TbT16) (mergeK [] (kvOf TbR17)))) = H17 at t17 ⊢
  refine ⟨_, rfl, .inr (.inr (.inl ⟨rfl, .inl ⟨_, t17.at_⟩⟩)), fun p18 np18 => ?_⟩
  have n18 : p ≠ p18 := ne_of_none t17.at_ np18
  refine ⟨upd_same, kvOf TbR18, rfl, by decide, p, p18, _, _, rfl, rfl, n18, by rw [upd_ne n18, upd_ne n18]; exact t17.at_, upd_same, len_ok _ _ (by decide +kernel), ?_⟩
  have t18 : Tab H _ p TbT18 := t17.upd (B := TbR18) np18
  generalize upd (upd (upd H17 p18 (.dK [])) p18 (.dK (mergeK [] (kvOf TbR18)))) p (.dK (mergeK (kvOf TbT17) (mergeK [] (kvOf TbR18)))) = H18 at t18 ⊢
  refine ⟨_, rfl, .inr (.inr (.inl ⟨rfl, .inl ⟨_, t18.at_⟩⟩)), fun p19 np19 => ?_⟩
  have n19 : p ≠ p19 := ne_of_none t18.at_ np19
  refine ⟨upd_same, kvOf TbR19, rfl, by decide, p, p19, _, _, rfl, rfl, n19, by rw [upd_ne n19, upd_ne n19]; exact t18.at_, upd_same, len_ok _ _ (by decide +kernel), ?_⟩
  have t19 : Tab H _ p TbT19 := t18.upd (B := TbR19) np19
  generalize upd (upd (upd H18 p19 (.dK [])) p19 (.dK (mergeK [] (kvOf TbR19)))) p (.dK (mergeK (kvOf TbT18) (mergeK [] (kvOf TbR19)))) = H19 at t19 ⊢
  refine ⟨_, rfl, .inr (.inr (.inl ⟨rfl, .inl ⟨_, t19.at_⟩⟩)), fun p20 np20 => ?_⟩
  have n20 : p ≠ p20 := ne_of_none t19.at_ np20
  refine ⟨upd_same, kvOf TbR20, rfl, by decide, p, p20, _, _, rfl, rfl, n20, by rw [upd_ne n20, upd_ne n20]; exact t19.at_, upd_same, len_ok _ _ (by decide +kernel), ?_⟩
  have t20 : Tab H _ p TbT20 := t19.upd (B := TbR20) np20
  generalize upd (upd (upd H19 p20 (.dK [])) p20 (.dK (mergeK [] (kvOf TbR20)))) p (.dK (mergeK (kvOf TbT19) (mergeK [] (kvOf TbR20)))) = H20 at t20 ⊢
  refine ⟨_, rfl, .inr (.inr (.inl ⟨rfl, .inl ⟨_, t20.at_⟩⟩)), fun p21 np21 => ?_⟩
  have n21 : p ≠ p21 := ne_of_none t20.at_ np21
  refine ⟨upd_same, kvOf TbR21, rfl, by decide, p, p21, _, _, rfl, rfl, n21, by rw [upd_ne n21, upd_ne n21]; exact t20.at_, upd_same, len_ok _ _ (by decide +kernel), ?_⟩
  have t21 : Tab H _ p TbT21 := t20.upd (B := TbR21) np21
  generalize upd (upd (upd H20 p21 (.dK [])) p21 (.dK (mergeK [] (kvOf TbR21)))) p (.dK (mergeK (kvOf TbT20) (mergeK [] (kvOf TbR21)))) = H21 at t21 ⊢
  refine ⟨_, rfl, .inr (.inr (.inl ⟨rfl, .inl ⟨_, t21.at_⟩⟩)), fun p22 np22 => ?_⟩
  have n22 : p ≠ p22 := ne_of_none t21.at_ np22
  refine ⟨upd_same, kvOf TbR22, rfl, by decide, p, p22, _, _, rfl, rfl, n22, by rw [upd_ne n22, upd_ne n22]; exact t21.at_, upd_same, len_ok _ _ (by decide +kernel), ?_⟩
  have t22 : Tab H _ p TbT22 := t21.upd (B := TbR22) np22
  generalize upd (upd (upd H21 p22 (.dK [])) p22 (.dK (mergeK [] (kvOf TbR22)))) p (.dK (mergeK (kvOf TbT21) (mergeK [] (kvOf TbR22)))) = H22 at t22 ⊢
  refine ⟨by show 3 ≤ sizeLine; decide, fun tu23 ntu23 => ⟨tu23, rfl, ⟨_, SqT.of upd_same⟩, ?_⟩⟩
  have u23 : Tab H (upd H22 tu23 (.tup [.str "ListComp", .str "SetComp", .str "GeneratorExp"])) p TbT22 := t22.up (same_new ntu23)
  have hU23 : (upd H22 tu23 (.tup [.str "ListComp", .str "SetComp", .str "GeneratorExp"])) tu23 = some (.tup [.str "ListComp", .str "SetComp", .str "GeneratorExp"]) := upd_same
  generalize upd H22 tu23 (.tup [.str "ListComp", .str "SetComp", .str "GeneratorExp"]) = G23 at u23 hU23 ⊢
  have nU23 : tu23 ≠ p := fun z => by rw [z, u23.at_] at hU23; cases hU23
  refine for_tup (K := K) (a := tu23) (xs := [.str "ListComp", .str "SetComp", .str "GeneratorExp"]) (fun i σ H' => ∃ y, σ = [some (.ref p), y] ∧ Tab H H' p ((fun j : Nat => match j with | 0 => TbT22 | 1 => putR (TbT22) "ListComp" "elt E;generators comprehension+" | 2 => putR (putR (TbT22) "ListComp" "elt E;generators comprehension+") "SetComp" "elt E;generators comprehension+" | _ => TbT23) i) ∧ ∀ b o, b ≠ p → G23 b = some o → H' b = some o) ⟨_, rfl, u23, fun b o _ e => e⟩ (fun i σ H' _ ⟨_, _, _, k⟩ => SqT.of (k _ _ nU23 hU23)) ?_ ?_
  · rintro i x σ H' hx ⟨y, rfl, t', k'⟩
    obtain ⟨kd, rfl, eR, hlen⟩ : ∃ kd : Str, x = .str kd ∧ (fun j : Nat => match j with | 0 => TbT22 | 1 => putR (TbT22) "ListComp" "elt E;generators comprehension+" | 2 => putR (putR (TbT22) "ListComp" "elt E;generators comprehension+") "SetComp" "elt E;generators comprehension+" | _ => TbT23) (i + 1) = putR ((fun j : Nat => match j with | 0 => TbT22 | 1 => putR (TbT22) "ListComp" "elt E;generators comprehension+" | 2 => putR (putR (TbT22) "ListComp" "elt E;generators comprehension+") "SetComp" "elt E;generators comprehension+" | _ => TbT23) i) kd "elt E;generators comprehension+" ∧ ((fun j : Nat => match j with | 0 => TbT22 | 1 => putR (TbT22) "ListComp" "elt E;generators comprehension+" | 2 => putR (putR (TbT22) "ListComp" "elt E;generators comprehension+") "SetComp" "elt E;generators comprehension+" | _ => TbT23) i).length < 1000 := by
      rcases i with _ | _ | _ | i
      · cases hx; exact ⟨"ListComp", rfl, rfl, by decide +kernel⟩
      · cases hx; exact ⟨"SetComp", rfl, rfl, by decide +kernel⟩
      · cases hx; exact ⟨"GeneratorExp", rfl, rfl, by decide +kernel⟩
      · simp at hx
    refine ⟨_, rfl, _, rfl, p, _, rfl, t'.dput hlen, _, rfl, by rw [eR]; exact t'.put, fun b o nb e => ?_⟩
    rw [upd_ne nb]; exact k' b o nb e
  rintro σ H23 ⟨y23, rfl, t23, _⟩
  have t23 : Tab H H23 p TbT23 := t23
  refine ⟨_, rfl, .inr (.inr (.inl ⟨rfl, .inl ⟨_, t23.at_⟩⟩)), fun p24 np24 => ?_⟩
  have n24 : p ≠ p24 := ne_of_none t23.at_ np24
  refine ⟨upd_same, kvOf TbR24, rfl, by decide, p, p24, _, _, rfl, rfl, n24, by rw [upd_ne n24, upd_ne n24]; exact t23.at_, upd_same, len_ok _ _ (by decide +kernel), ?_⟩
  have t24 : Tab H _ p TbT24 := t23.upd (B := TbR24) np24
  generalize upd (upd (upd H23 p24 (.dK [])) p24 (.dK (mergeK [] (kvOf TbR24)))) p (.dK (mergeK (kvOf TbT23) (mergeK [] (kvOf TbR24)))) = H24 at t24 ⊢
  refine ⟨_, rfl, .inr (.inr (.inl ⟨rfl, .inl ⟨_, t24.at_⟩⟩)), fun p25 np25 => ?_⟩
  have n25 : p ≠ p25 := ne_of_none t24.at_ np25
  refine ⟨upd_same, kvOf TbR25, rfl, by decide, p, p25, _, _, rfl, rfl, n25, by rw [upd_ne n25, upd_ne n25]; exact t24.at_, upd_same, len_ok _ _ (by decide +kernel), ?_⟩
  have t25 : Tab H _ p TbT25 := t24.upd (B := TbR25) np25
  generalize upd (upd (upd H24 p25 (.dK [])) p25 (.dK (mergeK [] (kvOf TbR25)))) p (.dK (mergeK (kvOf TbT24) (mergeK [] (kvOf TbR25)))) = H25 at t25 ⊢
  refine ⟨_, rfl, .inr (.inr (.inl ⟨rfl, .inl ⟨_, t25.at_⟩⟩)), fun p26 np26 => ?_⟩
  have n26 : p ≠ p26 := ne_of_none t25.at_ np26
  refine ⟨upd_same, kvOf TbR26, rfl, by decide, p, p26, _, _, rfl, rfl, n26, by rw [upd_ne n26, upd_ne n26]; exact t25.at_, upd_same, len_ok _ _ (by decide +kernel), ?_⟩
  have t26 : Tab H _ p TbT26 := t25.upd (B := TbR26) np26
  generalize upd (upd (upd H25 p26 (.dK [])) p26 (.dK (mergeK [] (kvOf TbR26)))) p (.dK (mergeK (kvOf TbT25) (mergeK [] (kvOf TbR26)))) = H26 at t26 ⊢
  refine ⟨_, rfl, p, _, rfl, t26.dput (by decide +kernel), ?_⟩
  have t27 : Tab H _ p TbT27 := t26.put (k := "arguments") (v := "posonlyargs arg*;args arg*;vararg arg?;kwonlyargs arg*;kw_defaults E?*;kwarg arg?")
  generalize upd H26 p (.dK (putK (kvOf TbT26) (.inr "arguments") (.str "posonlyargs arg*;args arg*;vararg arg?;kwonlyargs arg*;kw_defaults E?*;kwarg arg?"))) = H27 at t27 ⊢
  refine ⟨_, rfl, p, .str "posonlyargs arg*;args arg*;vararg arg?;kwonlyargs arg*;kw_defaults E?*;kwarg arg?", rfl, t27.dget (by decide +kernel), "posonlyargs arg*;args arg*;vararg arg?;kwonlyargs arg*;kw_defaults E?*;kwarg arg?", ";defaults E*", rfl, rfl, by decide +kernel, _, rfl, p, _, rfl, t27.dput (by decide +kernel), ?_⟩
  have t28 : Tab H _ p TbT28 := t27.put (k := "arguments") (v := ("posonlyargs arg*;args arg*;vararg arg?;kwonlyargs arg*;kw_defaults E?*;kwarg arg?" : Str) ++ ";defaults E*")
  generalize upd H27 p (.dK (putK (kvOf TbT27) (.inr "arguments") (.str (("posonlyargs arg*;args arg*;vararg arg?;kwonlyargs arg*;kw_defaults E?*;kwarg arg?" : Str) ++ ";defaults E*")))) = H28 at t28 ⊢
  refine ⟨_, rfl, .inr (.inr (.inl ⟨rfl, .inl ⟨_, t28.at_⟩⟩)), fun p29 np29 => ?_⟩
  have n29 : p ≠ p29 := ne_of_none t28.at_ np29
  refine ⟨upd_same, kvOf TbR29, rfl, by decide, p, p29, _, _, rfl, rfl, n29, by rw [upd_ne n29, upd_ne n29]; exact t28.at_, upd_same, len_ok _ _ (by decide +kernel), ?_⟩
  have t29 : Tab H _ p TbT29 := t28.upd (B := TbR29) np29
  generalize upd (upd (upd H28 p29 (.dK [])) p29 (.dK (mergeK [] (kvOf TbR29)))) p (.dK (mergeK (kvOf TbT28) (mergeK [] (kvOf TbR29)))) = H29 at t29 ⊢
  refine ⟨_, rfl, .inr (.inr (.inl ⟨rfl, .inl ⟨_, t29.at_⟩⟩)), rfl, fun G30 p30 tp30 => ?_⟩
  have u30 := t29.up tp30.sm
  have n30 : p ≠ p30 := fun z => by have y := tp30.n0; rw [← z, t29.at_] at y; cases y
  refine ⟨p, p30, _, _, rfl, rfl, n30, u30.at_, tp30.at_, len_ok2 _ _ (by decide +kernel), ?_⟩
  have t30 : Tab H _ p TbT30 := u30.mrg (B := PatRows)
  generalize upd G30 p (.dK (mergeK (kvOf TbT29) (kvOf PatRows))) = H30 at t30 ⊢
  exact ⟨_, rfl, q H30 p t30⟩
end Q8

namespace Q8
open PySem PySem.Spec PyProof.Rows L2
/-! ### the fields of a kind, by the law -/
def rowTx (k : Str) : Str := (TblRows.lookup k).getD ""
def piecesP (k : Str) : List Str := (Txt.split (rowTx k) ";").filter fun x : Str => !decide (x = "")
def fieldsP (k : Str) : List (List Str) := (piecesP k).map fun x => Txt.split x " "
def okRow (k : Str) : Bool := decide ((rowTx k).length ≤ 400) && (decide ((Txt.split (rowTx k) ";").length ≤ 20) && (Txt.split (rowTx k) ";").all fun x => decide (x.length ≤ 200))
/-- the law's fields are the program's -/
def sameRow : List (List Str) → List (Str × Str × Str) → Bool
  | [], [] => true
  | [n, _] :: ps, r :: rs => decide (n = r.1) && sameRow ps rs
  | _, _ => false
theorem rows_ok : (Fld.all fun p => okRow p.1 && sameRow (fieldsP p.1) p.2) = true := by decide +kernel
abbrev sFd : Stmt := topS 34
theorem scFd : FnScope ["_law_kind", "_law_row", "_law_part_here"] ["_law_kind"] (defScope sFd) := ⟨rfl, rfl, rfl, by decide +kernel, rfl, by decide +kernel, by decide +kernel⟩
/-- at q: the list of the tuples, all new since H -/
structure FdsAt (H H' : Hp) (q : Addr) (ps : List (List Str)) : Prop where
  nq : H q = none
  at_ : ∃ as : List Addr, H' q = some (.lst (as.map V.ref)) ∧ as.length = ps.length ∧ ∀ (i : Nat) b p, as[i]? = some b → ps[i]? = some p → H b = none ∧ H' b = some (.tup (p.map V.str))
def spFd : Sp := fun vs H Q _ => ∃ k : Str, vs = [.str k] ∧ okRow k = true ∧ ∀ (H' : Hp) (q : Addr), Same H H' → FdsAt H H' q (fieldsP k) → Q (.ref q) H'
def rTupOf (K : PySem.W.Frag) : List V → Hp → VK → Prop := fun xs H Q => ∃ (p : Addr) (ys : List V), xs = [V.ref p] ∧ ((SqL K H p ys ∧ ∀ l : Addr, H l = none → Q (V.ref l) (upd H l (HO.tup ys))) ∨ SqT K H p ys ∧ Q (V.ref p) H)
theorem ct {K : PySem.W.Frag} (X : Cx) (e : X.K = K) : CallR X (.type "tuple") (rTupOf K) := e ▸ call_tuple_of
section
variable {P : Program} {w : World} {K : PySem.W.Frag} {mg : Str → Option Value} {base : Heap}
theorem ok_fd {f fT : Addr} {fd dT : FuncData} (F : Fun K "_law_fields" "_law_fields" sFd f fd) (Z : Blt mg)
    (TB : FnOk P w K mg base CX0 2 fT dT [] (spTab TblRows)) (bT : Binds K dT [] []) (kT : PySem.W.keepIn K (.ref fT) = true) (mT : mg "_law_table" = some (.ref fT)) : FnOk P w K mg base CX0 3 f fd ["_law_kind"] spFd := by
  refine F.ok scFd (fun vs H Q E h => ?_) (fun cdv A outer s H vs Q E hr h => ?_)
  · obtain ⟨k, rfl, _⟩ := h
    rfl
  obtain ⟨k, rfl, ok, q⟩ := h
  refine ⟨_, (pss_cons (ps_set (i := 1) scFd.nd rfl (.inl rfl) (pe_dget2 (hu_of hr) (pe_call0 TB hr (by rfl) mT kT bT .nil pass0) (pv 0) pe_str ⟨rfl, rfl, rfl, rfl⟩))
    (pss_one (ps_ret (pe_lc (own := [("_law_part_here", 2)]) (g := gName 2) (tt := tB (tOp rNe (tVar 2) (tC (.str "")))) rfl scFd.nd (pi_list (pe_split (pv 1) pe_str)) (blkOk_by (own := [("_law_part_here", 2)]) (N := ["_law_kind", "_law_row", "_law_part_here"]) (sc := (defScope sFd)) (by decide +kernel)) (fun _ _ _ _ _ => (pg_name (i := 2) scFd.nd rfl (.inl rfl))) (fun _ _ _ _ _ => pts_one (pt_cmpR op_ne (pv 2) pe_str (nomark _))) (fun _ _ _ _ _ => (pe_callTy (ct (K := K) _ rfl) (by rfl) Z.tp (by decide +kernel) (pa_cons (pe_split (pv 2) pe_str) pa_nil))))))), ?_⟩
  obtain ⟨o1, ok2⟩ := Bool.and_eq_true_iff.mp ok
  obtain ⟨o2, o3⟩ := Bool.and_eq_true_iff.mp ok2
  have o1 := of_decide_eq_true o1
  have o2 := of_decide_eq_true o2
  have zS : (1000 : Nat) ≤ sizeLine := by decide
  refine ⟨rfl, fun H1 t tb => ⟨t, rfl, .inl ⟨_, Rd.of tb.at_⟩, _, rfl, _, DGet.k (k := Sum.inr k) tb.at_, ?_⟩⟩
  have e0 : ((valV (kvOf TblRows) (Sum.inr k)).getD (.str "")) = .str (rowTx k) := by
    rw [valV_kvOf]
    unfold rowTx
    cases TblRows.lookup k <;> rfl
  rw [e0]
  refine ⟨_, rfl, ⟨_, rfl⟩, rowTx k, _, rfl, rfl, by decide +kernel, by omega, fun l nl => ⟨l, rfl, ⟨_, SqL.of upd_same⟩, fun D nD => ?_⟩⟩
  have sl := same_new (o := .lst ((Txt.split (rowTx k) ";").map V.str)) nl
  have hl : (upd H1 l (.lst ((Txt.split (rowTx k) ";").map V.str))) l = some (.lst ((Txt.split (rowTx k) ";").map V.str)) := upd_same
  generalize upd H1 l (.lst ((Txt.split (rowTx k) ";").map V.str)) = Hl at sl hl nD ⊢
  have s0l : Same H Hl := tb.sm.trans sl
  refine lc_list (K := K) (a := l) (xs := (Txt.split (rowTx k) ";").map V.str) (fun m H8 => ∃ as : List Addr, Same Hl H8 ∧ H8 D = some (.lst (as.map V.ref)) ∧ as.length = (((Txt.split (rowTx k) ";").take m).filter fun x : Str => !decide (x = "")).length ∧
      ∀ (n : Nat) b p, as[n]? = some b → (((Txt.split (rowTx k) ";").take m).filter fun x : Str => !decide (x = ""))[n]? = some p → H b = none ∧ H8 b = some (.tup ((Txt.split p " ").map V.str))) ⟨[], same_new nD, upd_same, rfl, fun n b p g => by simp at g⟩ (fun m H8 _ ⟨_, s8, _⟩ => SqL.of (s8 _ _ hl)) ?_ ?_
  · rintro m x H8 hx ⟨as, s8, hD, hlen, hp8⟩
    rw [List.getElem?_map] at hx
    obtain ⟨p, hp, rfl⟩ := Option.map_eq_some_iff.mp hx
    have hm : m < (Txt.split (rowTx k) ";").length := by
      rcases Nat.lt_or_ge m (Txt.split (rowTx k) ";").length with z | z
      · exact z
      · rw [List.getElem?_eq_none z] at hp; cases hp
    have pl := of_decide_eq_true (List.all_eq_true.mp o3 p (List.mem_of_getElem? hp))
    have et : ((Txt.split (rowTx k) ";").take (m + 1)).filter (fun x : Str => !decide (x = "")) = ((Txt.split (rowTx k) ";").take m).filter (fun x : Str => !decide (x = "")) ++ (if p = "" then [] else [p]) := by
      rw [List.take_succ, hp, List.filter_append]
      by_cases e : p = ""
      · rw [if_pos e]; simp [e]
      · rw [if_neg e]; simp [e]
    refine ⟨rfl, ?_⟩
    refine ⟨_, rfl, rfl, _, rfl, ?_⟩
    refine ite2 (fun c => ?_) (fun c => ?_)
    · have ne : p ≠ "" := fun z => by rw [z] at c; simp at c
      rw [if_neg ne] at et
      refine ⟨_, rfl, ⟨_, rfl⟩, p, _, rfl, rfl, by decide +kernel, by omega, fun b nb => ⟨b, _, rfl, .inl ⟨SqL.of upd_same, fun tu ntu => ?_⟩⟩⟩
      have Db : D ≠ b := ne_of_none hD nb
      have ntu8 : H8 tu = none := (same_new nb).free ntu
      have Dt : D ≠ tu := ne_of_none hD ntu8
      have sU : Same H8 (upd (upd H8 b (.lst ((Txt.split p " ").map V.str))) tu (.tup ((Txt.split p " ").map V.str))) := (same_new nb).trans (same_new ntu)
      refine ⟨as.map V.ref, by rw [upd_ne Dt, upd_ne Db]; exact hD, ?_, as ++ [tu], fun b' o e => ?_, by rw [upd_same, List.map_append]; rfl, by rw [et, List.length_append, List.length_append, hlen]; rfl, fun n b' p' g1 g2 => ?_⟩
      · have z1 := List.length_filter_le (fun x : Str => !decide (x = "")) ((Txt.split (rowTx k) ";").take m)
        rw [List.length_take] at z1
        rw [List.length_map, hlen]
        omega
      · rw [upd_ne (ne_of_none e nD)]
        exact sU _ _ (s8 _ _ e)
      · rw [et] at g2
        by_cases hn : n < as.length
        · rw [List.getElem?_append_left hn] at g1
          rw [List.getElem?_append_left (by rw [← hlen]; exact hn)] at g2
          obtain ⟨h1, h2⟩ := hp8 n b' p' g1 g2
          refine ⟨h1, ?_⟩
          rw [upd_ne (fun z => by rw [z, hD] at h2; cases h2)]
          exact sU _ _ h2
        · have ln : n = as.length := by
            have z : n < (as ++ [tu]).length := by
              rcases Nat.lt_or_ge n (as ++ [tu]).length with y | y
              · exact y
              · rw [List.getElem?_eq_none y] at g1; cases g1
            rw [List.length_append, List.length_singleton] at z
            omega
          subst ln
          rw [List.getElem?_append_right (Nat.le_refl _), Nat.sub_self] at g1
          rw [hlen, List.getElem?_append_right (Nat.le_refl _), Nat.sub_self] at g2
          cases g1
          cases g2
          refine ⟨s0l.free (s8.free ntu8), ?_⟩
          rw [upd_ne Dt.symm, upd_same]
    · have e : p = "" := by
        have z : decide (V.str p = V.str "") = true := by simpa using c
        exact V.str.inj (of_decide_eq_true z)
      rw [if_pos e, List.append_nil] at et
      exact ⟨as, s8, hD, by rw [et]; exact hlen, fun n b p' g1 g2 => hp8 n b p' g1 (by rw [et] at g2; exact g2)⟩
  · rintro H8 ⟨as, s8, hD, hlen, hp8⟩
    have e : (((Txt.split (rowTx k) ";").map V.str).length) = (Txt.split (rowTx k) ";").length := List.length_map _
    rw [e, List.take_length] at hlen hp8
    refine q H8 D (s0l.trans s8) ⟨s0l.free nD, as, hD, by unfold fieldsP piecesP; rw [List.length_map]; exact hlen, fun i b p g1 g2 => ?_⟩
    unfold fieldsP piecesP at g2
    rw [List.getElem?_map] at g2
    obtain ⟨x, hx, rfl⟩ := Option.map_eq_some_iff.mp g2
    exact hp8 i b x g1 hx
end
end Q8

namespace Q8
open PySem PySem.Spec PyProof.Rows L2
/-! ### the kinds that a letter of the law's table stands for -/
def GrR0 : List (Str × Str) := [("S", "FunctionDef AsyncFunctionDef ClassDef Return Delete Assign AugAssign AnnAssign For")]
def GrT0 : List (Str × Str) := mergeR [] GrR0
def GrT1 : List (Str × Str) := putR GrT0 "S" (("FunctionDef AsyncFunctionDef ClassDef Return Delete Assign AugAssign AnnAssign For" : Str) ++ " AsyncFor While If With AsyncWith Match Raise Try Assert Import ImportFrom")
def GrT2 : List (Str × Str) := putR GrT1 "S" (("FunctionDef AsyncFunctionDef ClassDef Return Delete Assign AugAssign AnnAssign For AsyncFor While If With AsyncWith Match Raise Try Assert Import ImportFrom" : Str) ++ " Global Nonlocal Expr Pass Break Continue")
def GrT3 : List (Str × Str) := putR GrT2 "E" "BoolOp NamedExpr BinOp UnaryOp Lambda IfExp Dict Set ListComp SetComp GeneratorExp"
def GrT4 : List (Str × Str) := putR GrT3 "E" (("BoolOp NamedExpr BinOp UnaryOp Lambda IfExp Dict Set ListComp SetComp GeneratorExp" : Str) ++ " DictComp Await Yield YieldFrom Compare Call FormattedValue JoinedStr Constant")
def GrT5 : List (Str × Str) := putR GrT4 "E" (("BoolOp NamedExpr BinOp UnaryOp Lambda IfExp Dict Set ListComp SetComp GeneratorExp DictComp Await Yield YieldFrom Compare Call FormattedValue JoinedStr Constant" : Str) ++ " Attribute Subscript Starred Name List Tuple Slice Name Constant")
def GrT6 : List (Str × Str) := putR GrT5 "T" "MatchAs MatchOr MatchSingleton MatchMapping MatchValue MatchSequence MatchClass MatchStar"
def GrR7 : List (Str × Str) := [("O", "And Or"), ("U", "Invert Not UAdd USub"), ("X", "Load Store Del")]
def GrT7 : List (Str × Str) := mergeR GrT6 (mergeR [] GrR7)
def GrT8 : List (Str × Str) := putR GrT7 "P" "Add Sub Mult MatMult Div FloorDiv Pow LShift RShift BitOr BitXor BitAnd"
def GrT9 : List (Str × Str) := putR GrT8 "C" "Eq NotEq Lt LtE Gt GtE Is IsNot In NotIn"
def grpTx (h : Str) : Str := (GrT9.lookup h).getD h
def groupP (h : Str) : List Str := Txt.split (grpTx h) " "
abbrev sGr : Stmt := topS 35
theorem scGr : FnScope ["_law_held", "_law_words"] ["_law_held"] (defScope sGr) := ⟨rfl, rfl, rfl, by decide +kernel, rfl, by decide +kernel, by decide +kernel⟩
def spGr : Sp := fun vs H Q _ => ∃ h : Str, vs = [.str h] ∧ (grpTx h).length ≤ 1000 ∧ ∀ (H' : Hp) (q : Addr), Same H H' → H q = none → H' q = some (.lst ((groupP h).map V.str)) → Q (.ref q) H'
theorem ok_gr {P : Program} {w : World} {K : PySem.W.Frag} {mg : Str → Option Value} {base : Heap} {f : Addr} {fd : FuncData} (F : Fun K "_law_group" "_law_group" sGr f fd) : FnOk P w K mg base CX0 1 f fd ["_law_held"] spGr := by
  refine F.ok scGr (fun vs H Q E h => ?_) (fun cdv A outer s H vs Q E hr h => ?_)
  · obtain ⟨h, rfl, _⟩ := h
    rfl
  obtain ⟨h, rfl, hl, q⟩ := h
  have zS : (2000 : Nat) ≤ sizeLine := by decide
  refine ⟨_, pss_cons (ps_set (i := 1) scGr.nd rfl (.inl rfl) (pe_disp (pps_cons pe_str pe_str pps_nil) (by rfl) (by rfl) (fun z => by cases z) (by decide)))
    (pss_cons (ps_dput (hu_of hr) (pv 1) pe_str (pe_op op_add_str (pe_dget (hu_of hr) (pv 1) pe_str (fun _ _ => rfl)) pe_str) (by rfl))
    (pss_cons (ps_dput (hu_of hr) (pv 1) pe_str (pe_op op_add_str (pe_dget (hu_of hr) (pv 1) pe_str (fun _ _ => rfl)) pe_str) (by rfl))
    (pss_cons (ps_dput (hu_of hr) (pv 1) pe_str pe_str (by rfl))
    (pss_cons (ps_dput (hu_of hr) (pv 1) pe_str (pe_op op_add_str (pe_dget (hu_of hr) (pv 1) pe_str (fun _ _ => rfl)) pe_str) (by rfl))
    (pss_cons (ps_dput (hu_of hr) (pv 1) pe_str (pe_op op_add_str (pe_dget (hu_of hr) (pv 1) pe_str (fun _ _ => rfl)) pe_str) (by rfl))
    (pss_cons (ps_dput (hu_of hr) (pv 1) pe_str pe_str (by rfl))
    (pss_cons (ps_expr (pe_bm PySem.F.plainAttrs_dict PySem.F.slot_dict_update PySem.F.type_dict_update mt_update (pv 1) (pa_cons (pe_disp (pps_cons pe_str pe_str (pps_cons pe_str pe_str (pps_cons pe_str pe_str pps_nil))) (by rfl) (by rfl) (fun z => by cases z) (by decide)) pa_nil)))
    (pss_cons (ps_dput (hu_of hr) (pv 1) pe_str pe_str (by rfl))
    (pss_cons (ps_dput (hu_of hr) (pv 1) pe_str pe_str (by rfl))
    (pss_one (ps_ret (pe_split (pe_dget2 (hu_of hr) (pv 1) (pv 0) (pv 0) ⟨rfl, rfl, rfl, rfl⟩) pe_str)))))))))))), ?_⟩
  refine fun p np => ⟨upd_same, kvOf GrR0, rfl, by decide, ?_⟩
  have t0 : Tab H _ p GrT0 := Tab.new (B := GrR0) np
  generalize upd (upd H p (.dK [])) p (.dK (mergeK [] (kvOf GrR0))) = H0 at t0 ⊢
  refine ⟨_, rfl, p, .str "FunctionDef AsyncFunctionDef ClassDef Return Delete Assign AugAssign AnnAssign For", rfl, t0.dget (by decide +kernel), "FunctionDef AsyncFunctionDef ClassDef Return Delete Assign AugAssign AnnAssign For", " AsyncFor While If With AsyncWith Match Raise Try Assert Import ImportFrom", rfl, rfl, by decide +kernel, _, rfl, p, _, rfl, t0.dput (by decide +kernel), ?_⟩
  have t1 : Tab H _ p GrT1 := t0.put (k := "S") (v := ("FunctionDef AsyncFunctionDef ClassDef Return Delete Assign AugAssign AnnAssign For" : Str) ++ " AsyncFor While If With AsyncWith Match Raise Try Assert Import ImportFrom")
  generalize upd H0 p (.dK (putK (kvOf GrT0) (.inr "S") (.str (("FunctionDef AsyncFunctionDef ClassDef Return Delete Assign AugAssign AnnAssign For" : Str) ++ " AsyncFor While If With AsyncWith Match Raise Try Assert Import ImportFrom")))) = H1 at t1 ⊢
  refine ⟨_, rfl, p, .str "FunctionDef AsyncFunctionDef ClassDef Return Delete Assign AugAssign AnnAssign For AsyncFor While If With AsyncWith Match Raise Try Assert Import ImportFrom", rfl, t1.dget (by decide +kernel), "FunctionDef AsyncFunctionDef ClassDef Return Delete Assign AugAssign AnnAssign For AsyncFor While If With AsyncWith Match Raise Try Assert Import ImportFrom", " Global Nonlocal Expr Pass Break Continue", rfl, rfl, by decide +kernel, _, rfl, p, _, rfl, t1.dput (by decide +kernel), ?_⟩
  have t2 : Tab H _ p GrT2 := t1.put (k := "S") (v := ("FunctionDef AsyncFunctionDef ClassDef Return Delete Assign AugAssign AnnAssign For AsyncFor While If With AsyncWith Match Raise Try Assert Import ImportFrom" : Str) ++ " Global Nonlocal Expr Pass Break Continue")
  generalize upd H1 p (.dK (putK (kvOf GrT1) (.inr "S") (.str (("FunctionDef AsyncFunctionDef ClassDef Return Delete Assign AugAssign AnnAssign For AsyncFor While If With AsyncWith Match Raise Try Assert Import ImportFrom" : Str) ++ " Global Nonlocal Expr Pass Break Continue")))) = H2 at t2 ⊢
  refine ⟨_, rfl, p, _, rfl, t2.dput (by decide +kernel), ?_⟩
  have t3 : Tab H _ p GrT3 := t2.put (k := "E") (v := "BoolOp NamedExpr BinOp UnaryOp Lambda IfExp Dict Set ListComp SetComp GeneratorExp")
  generalize upd H2 p (.dK (putK (kvOf GrT2) (.inr "E") (.str "BoolOp NamedExpr BinOp UnaryOp Lambda IfExp Dict Set ListComp SetComp GeneratorExp"))) = H3 at t3 ⊢
  refine ⟨_, rfl, p, .str "BoolOp NamedExpr BinOp UnaryOp Lambda IfExp Dict Set ListComp SetComp GeneratorExp", rfl, t3.dget (by decide +kernel), "BoolOp NamedExpr BinOp UnaryOp Lambda IfExp Dict Set ListComp SetComp GeneratorExp", " DictComp Await Yield YieldFrom Compare Call FormattedValue JoinedStr Constant", rfl, rfl, by decide +kernel, _, rfl, p, _, rfl, t3.dput (by decide +kernel), ?_⟩
  have t4 : Tab H _ p GrT4 := t3.put (k := "E") (v := ("BoolOp NamedExpr BinOp UnaryOp Lambda IfExp Dict Set ListComp SetComp GeneratorExp" : Str) ++ " DictComp Await Yield YieldFrom Compare Call FormattedValue JoinedStr Constant")
  generalize upd H3 p (.dK (putK (kvOf GrT3) (.inr "E") (.str (("BoolOp NamedExpr BinOp UnaryOp Lambda IfExp Dict Set ListComp SetComp GeneratorExp" : Str) ++ " DictComp Await Yield YieldFrom Compare Call FormattedValue JoinedStr Constant")))) = H4 at t4 ⊢
  refine ⟨_, rfl, p, .str "BoolOp NamedExpr BinOp UnaryOp Lambda IfExp Dict Set ListComp SetComp GeneratorExp DictComp Await Yield YieldFrom Compare Call FormattedValue JoinedStr Constant", rfl, t4.dget (by decide +kernel), "BoolOp NamedExpr BinOp UnaryOp Lambda IfExp Dict Set ListComp SetComp GeneratorExp DictComp Await Yield YieldFrom Compare Call FormattedValue JoinedStr Constant", " Attribute Subscript Starred Name List Tuple Slice Name Constant", rfl, rfl, by decide +kernel, _, rfl, p, _, rfl, t4.dput (by decide +kernel), ?_⟩
  have t5 : Tab H _ p GrT5 := t4.put (k := "E") (v := ("BoolOp NamedExpr BinOp UnaryOp Lambda IfExp Dict Set ListComp SetComp GeneratorExp DictComp Await Yield YieldFrom Compare Call FormattedValue JoinedStr Constant" : Str) ++ " Attribute Subscript Starred Name List Tuple Slice Name Constant")
  generalize upd H4 p (.dK (putK (kvOf GrT4) (.inr "E") (.str (("BoolOp NamedExpr BinOp UnaryOp Lambda IfExp Dict Set ListComp SetComp GeneratorExp DictComp Await Yield YieldFrom Compare Call FormattedValue JoinedStr Constant" : Str) ++ " Attribute Subscript Starred Name List Tuple Slice Name Constant")))) = H5 at t5 ⊢
  refine ⟨_, rfl, p, _, rfl, t5.dput (by decide +kernel), ?_⟩
  have t6 : Tab H _ p GrT6 := t5.put (k := "T") (v := "MatchAs MatchOr MatchSingleton MatchMapping MatchValue MatchSequence MatchClass MatchStar")
  generalize upd H5 p (.dK (putK (kvOf GrT5) (.inr "T") (.str "MatchAs MatchOr MatchSingleton MatchMapping MatchValue MatchSequence MatchClass MatchStar"))) = H6 at t6 ⊢
  refine ⟨_, rfl, .inr (.inr (.inl ⟨rfl, .inl ⟨_, t6.at_⟩⟩)), fun p7 np7 => ?_⟩
  have n7 : p ≠ p7 := ne_of_none t6.at_ np7
  refine ⟨upd_same, kvOf GrR7, rfl, by decide, p, p7, _, _, rfl, rfl, n7, by rw [upd_ne n7, upd_ne n7]; exact t6.at_, upd_same, len_ok _ _ (by decide +kernel), ?_⟩
  have t7 : Tab H _ p GrT7 := t6.upd (B := GrR7) np7
  generalize upd (upd (upd H6 p7 (.dK [])) p7 (.dK (mergeK [] (kvOf GrR7)))) p (.dK (mergeK (kvOf GrT6) (mergeK [] (kvOf GrR7)))) = H7 at t7 ⊢
  refine ⟨_, rfl, p, _, rfl, t7.dput (by decide +kernel), ?_⟩
  have t8 : Tab H _ p GrT8 := t7.put (k := "P") (v := "Add Sub Mult MatMult Div FloorDiv Pow LShift RShift BitOr BitXor BitAnd")
  generalize upd H7 p (.dK (putK (kvOf GrT7) (.inr "P") (.str "Add Sub Mult MatMult Div FloorDiv Pow LShift RShift BitOr BitXor BitAnd"))) = H8 at t8 ⊢
  refine ⟨_, rfl, p, _, rfl, t8.dput (by decide +kernel), ?_⟩
  have t9 : Tab H _ p GrT9 := t8.put (k := "C") (v := "Eq NotEq Lt LtE Gt GtE Is IsNot In NotIn")
  generalize upd H8 p (.dK (putK (kvOf GrT8) (.inr "C") (.str "Eq NotEq Lt LtE Gt GtE Is IsNot In NotIn"))) = H9 at t9 ⊢
  refine ⟨_, rfl, p, rfl, .inl ⟨_, Rd.of t9.at_⟩, _, rfl, _, rfl, _, DGet.k (k := Sum.inr h) t9.at_, ?_⟩
  have e0 : ((valV (kvOf GrT9) (Sum.inr h)).getD (.str h)) = .str (grpTx h) := by
    rw [valV_kvOf]
    unfold grpTx
    cases GrT9.lookup h <;> rfl
  rw [e0]
  exact ⟨⟨_, rfl⟩, grpTx h, _, rfl, rfl, by decide +kernel, by omega, fun l nl => q _ l (t9.sm.trans (same_new nl)) (t9.sm.free nl) upd_same⟩
end Q8

namespace Q8
open PySem PySem.Spec PyProof.Rows L2
/-! ### a spot: four numbers or None -/
abbrev sSp : Stmt := topS 37
theorem scSp : FnScope ["_law_stream", "_law_way", "_law_found", "_law_number"] ["_law_stream"] (defScope sSp) := ⟨rfl, rfl, rfl, by decide +kernel, rfl, by decide +kernel, by decide +kernel⟩
def isNum : V → Bool
  | .non => true
  | .int _ => true
  | _ => false
def spSp : Sp := fun vs H Q _ => ∃ (a c : Addr) (S : Stm), vs = [.ref a] ∧ StmAt H a c S ∧ S.cnt < 900000 ∧
  ∀ (H' : Hp) (S' : Stm) (q : Addr) (xs : List V), StmAt H' a c S' → S'.cnt ≤ S.cnt + 9 → Kept a c H H' → H q = none → H' q = some (.lst xs) → xs.length = 4 → (∀ x ∈ xs, isNum x = true) → Q (.ref q) H'
section
variable {P : Program} {w : World} {K : PySem.W.Frag} {mg : Str → Option Value} {base : Heap}
theorem ok_sp {f fD : Addr} {fd dD : FuncData} (F : Fun K "_law_spot" "_law_spot" sSp f fd)
    (D : FnOk P w K mg base CX0 1 fD dD ["_law_stream", "_law_many"] spDraw) (bD : Binds K dD ["_law_stream", "_law_many"] []) (kD : PySem.W.keepIn K (.ref fD) = true) (mD : mg "_law_draw" = some (.ref fD)) : FnOk P w K mg base CX0 2 f fd ["_law_stream"] spSp := by
  refine F.ok scSp (fun vs H Q E h => ?_) (fun cdv A outer s H vs Q E hr h => ?_)
  · obtain ⟨a, c, S, rfl, _⟩ := h
    rfl
  obtain ⟨a, c, S, rfl, hS, hc, q⟩ := h
  refine ⟨_, (pss_cons (ps_set (i := 1) scSp.nd rfl (.inr rfl) (pe_call D hr rfl mD kD bD .nil pass0 (pa_cons (pv 0) (pa_cons pe_int pa_nil))))
    (pss_cons (ps_set (i := 2) scSp.nd rfl (.inl rfl) (pe_lst (pa_cons (pe_op op_add pe_int (pe_call D hr rfl mD kD bD .nil pass0 (pa_cons (pv 0) (pa_cons pe_int pa_nil)))) (pa_cons (pe_call D hr rfl mD kD bD .nil pass0 (pa_cons (pv 0) (pa_cons pe_int pa_nil))) (pa_cons (pe_op op_add pe_int (pe_call D hr rfl mD kD bD .nil pass0 (pa_cons (pv 0) (pa_cons pe_int pa_nil)))) (pa_cons (pe_call D hr rfl mD kD bD .nil pass0 (pa_cons (pv 0) (pa_cons pe_int pa_nil))) pa_nil))))))
    (pss_one (ps_ret (pe_lc (own := [("_law_number", 3)]) (g := gName 3) (tt := tYes) rfl scSp.nd (pi_list (pv 2)) (blkOk_by (own := [("_law_number", 3)]) (N := ["_law_stream", "_law_way", "_law_found", "_law_number"]) (sc := (defScope sSp)) (by decide +kernel)) (fun _ _ _ _ _ => (pg_name (i := 3) scSp.nd rfl (.inl rfl))) (fun _ _ _ _ _ => pts_nil) (fun _ _ _ _ _ => (pe_ifExp (PW.pt (pw_or (pt_cmpR op_eq (pv 1) pe_int (nomark _)) (pw_or1 (PW.pt (pw_and (pt_cmpR op_eq (pv 1) pe_int (nomark _)) (pw_and1 (pt_cmpR op_eq (pe_call D hr rfl mD kD bD .nil pass0 (pa_cons (pv 0) (pa_cons pe_int pa_nil))) pe_int (nomark _)))))))) pe_non (pv 3)))))))), ?_⟩
  refine ⟨_, rfl, a, c, S, 3, rfl, hS, by omega, by decide, by decide, fun H1 S1 r1 h1 c1 k1 _ _ => ?_⟩
  refine ⟨_, rfl, a, c, S1, 9, rfl, h1, by omega, by decide, by decide, fun H2 S2 r2 h2 c2 k2 _ _ => ⟨_, _, rfl, rfl, ?_⟩⟩
  refine ⟨_, rfl, a, c, S2, 30, rfl, h2, by omega, by decide, by decide, fun H3 S3 r3 h3 c3 k3 _ _ => ?_⟩
  refine ⟨_, rfl, a, c, S3, 9, rfl, h3, by omega, by decide, by decide, fun H4 S4 r4 h4 c4 k4 _ _ => ⟨_, _, rfl, rfl, ?_⟩⟩
  refine ⟨_, rfl, a, c, S4, 30, rfl, h4, by omega, by decide, by decide, fun H5 S5 r5 h5 c5 k5 _ _ => ?_⟩
  refine ⟨by show 4 ≤ sizeLine; decide, fun L nL => ?_⟩
  have kL : Kept a c H (upd H5 L (.lst [.int (1 + r2), .int r3, .int (1 + r4), .int r5])) := ((((k1.trans k2).trans k3).trans k4).trans k5).trans (Kept.same (same_new nL))
  have h6 := h5.keep (same_new (o := .lst [.int (1 + r2), .int r3, .int (1 + r4), .int r5]) nL)
  have hL : (upd H5 L (.lst [.int (1 + r2), .int r3, .int (1 + r4), .int r5])) L = some (.lst [.int (1 + r2), .int r3, .int (1 + r4), .int r5]) := upd_same
  have aL : L ≠ a := (ne_of_none h5.lst nL).symm
  have cL : L ≠ c := (ne_of_none h5.cel nL).symm
  generalize upd H5 L (.lst [.int (1 + r2), .int r3, .int (1 + r4), .int r5]) = H6 at kL h6 hL ⊢
  refine ⟨_, rfl, L, rfl, ⟨_, SqL.of hL⟩, fun G nG => ?_⟩
  have aG : G ≠ a := (ne_of_none h6.lst nG).symm
  have cG : G ≠ c := (ne_of_none h6.cel nG).symm
  have LG : L ≠ G := ne_of_none hL nG
  refine lc_list (K := K) (a := L) (xs := [.int (1 + r2), .int r3, .int (1 + r4), .int r5]) (fun i H7 => ∃ (S7 : Stm) (ys : List V), StmAt H7 a c S7 ∧ S7.cnt ≤ S.cnt + 5 + i ∧ Kept a c H6 H7 ∧ H7 G = some (.lst ys) ∧ ys.length = i ∧ ∀ y ∈ ys, isNum y = true)
    ⟨S5, [], h6.keep (same_new nG), by show S5.cnt ≤ S.cnt + 5 + (0 : Int); omega, Kept.same (same_new nG), upd_same, rfl, fun y hy => by cases hy⟩ (fun i H7 _ ⟨_, _, _, _, k, _⟩ => SqL.of (k _ _ aL cL hL)) ?_ ?_
  · rintro i x H7 hx ⟨S7, ys, h7, c7, k7, g7, l7, n7⟩
    have hi : i < 4 := by
      rcases Nat.lt_or_ge i 4 with z | z
      · exact z
      · rw [List.getElem?_eq_none (by exact z)] at hx; cases hx
    obtain ⟨j, rfl⟩ : ∃ j, x = V.int j := by
      rcases i with _ | _ | _ | _ | i
      · cases hx; exact ⟨_, rfl⟩
      · cases hx; exact ⟨_, rfl⟩
      · cases hx; exact ⟨_, rfl⟩
      · cases hx; exact ⟨_, rfl⟩
      · omega
    have fin : ∀ (H8 : Hp) (S8 : Stm) (y : V), StmAt H8 a c S8 → S8.cnt ≤ S7.cnt + 1 → Kept a c H7 H8 → isNum y = true → ∃ acc, H8 G = some (.lst acc) ∧ acc.length < sizeLine ∧ ∃ (S9 : Stm) (zs : List V), StmAt (upd H8 G (.lst (acc ++ [y]))) a c S9 ∧ S9.cnt ≤ S.cnt + 5 + ((i + 1 : Nat) : Int) ∧ Kept a c H6 (upd H8 G (.lst (acc ++ [y]))) ∧ (upd H8 G (.lst (acc ++ [y]))) G = some (.lst zs) ∧ zs.length = i + 1 ∧ ∀ z ∈ zs, isNum z = true := by
      intro H8 S8 y h8 c8 k8 hy
      refine ⟨ys, k8 _ _ aG cG g7, by have z : (100 : Nat) ≤ sizeLine := (by decide); omega, S8, ys ++ [y], ?_, by omega, fun b o n1 n2 e => ?_, upd_same, by rw [List.length_append, l7]; rfl, fun z hz => ?_⟩
      · refine ⟨by rw [upd_ne aG.symm]; exact h8.lst, by rw [upd_ne cG.symm]; exact h8.cel, h8.ne, h8.len, h8.cur0, h8.cnt0, h8.mix0, h8.mix1⟩
      · rw [upd_ne (ne_of_none e nG)]
        exact k8 b o n1 n2 (k7 b o n1 n2 e)
      · rcases List.mem_append.mp hz with z1 | z1
        · exact n7 z z1
        · rw [List.mem_singleton.mp z1]; exact hy
    refine ⟨rfl, ?_⟩
    unfold tYes
    refine iteT ?_
    refine ⟨_, rfl, rfl, _, rfl, ?_⟩
    refine ite2 (fun _ => ?_) (fun _ => ?_)
    · exact fin H7 S7 .non h7 (by omega) (Kept.refl _ _ _) rfl
    · refine ⟨_, rfl, rfl, _, rfl, ?_⟩
      refine ite2 (fun _ => ?_) (fun _ => ?_)
      · refine ⟨_, rfl, a, c, S7, 2, rfl, h7, by omega, by decide, by decide, fun H8 S8 r8 h8 c8 k8 _ _ => ⟨rfl, _, rfl, ?_⟩⟩
        refine ite2 (fun _ => ?_) (fun _ => ?_)
        · exact fin H8 S8 .non h8 c8 k8 rfl
        · exact ⟨_, rfl, fin H8 S8 (.int j) h8 c8 k8 rfl⟩
      · exact ⟨_, rfl, fin H7 S7 (.int j) h7 (by omega) (Kept.refl _ _ _) rfl⟩
  · rintro H7 ⟨S7, ys, h7, c7, k7, g7, l7, n7⟩
    have c7 : S7.cnt ≤ S.cnt + 5 + ((4 : Nat) : Int) := c7
    have nG0 : H G = none := by
      cases e : H G with
      | none => rfl
      | some o => rw [kL G o aG cG e] at nG; cases nG
    exact q H7 S7 G ys h7 (by omega) (kL.trans k7) nG0 g7 l7 n7
end
end Q8

namespace Q8
open PySem PySem.Spec PyProof.Rows L2 StX
/-! ### objects of values -/
abbrev sIn1 : Stmt := inClass (topS 10) 0
abbrev sIn2 : Stmt := inClass (topS 11) 0
abbrev sIn3 : Stmt := inClass (topS 12) 0
theorem scIn1 : FnScope ["self", "mantissa", "exponent"] ["self", "mantissa", "exponent"] (defScope sIn1) := ⟨rfl, rfl, rfl, by decide +kernel, rfl, by decide +kernel, by decide +kernel⟩
theorem scIn2 : FnScope ["self", "number"] ["self", "number"] (defScope sIn2) := ⟨rfl, rfl, rfl, by decide +kernel, rfl, by decide +kernel, by decide +kernel⟩
theorem scIn3 : FnScope ["self", "numbers"] ["self", "numbers"] (defScope sIn3) := ⟨rfl, rfl, rfl, by decide +kernel, rfl, by decide +kernel, by decide +kernel⟩
/-- C(), no __init__ of its own -/
def tMakeE (C : Addr) : TE := fun _ H Q => ∀ x dx, H x = none → H dx = none → dx ≠ x → Q (.ref x) (upd (upd H dx (.own x)) x (.ins C dx []))
theorem pe_makeE {X : Cx} {C : Addr} {x : Str} {p pos : Pos} (hmk : PySem.W.makesIn X.K C = true) (hi : PySem.W.findIn X.K (.ref C) "__init__" = some (some (.builtin "object.__init__"))) (hob : PySem.W.mroIn X.K C (.type "object") = some true) (kC : PySem.W.keepIn X.K (.ref C) = true)
    (hg : Gl X x) (hm : X.mg x = some (.ref C)) (hdb : (x == ("__debug__" : Str)) = false := by decide) : PE X (.Call (.Name x p) [] [] pos) (tMakeE C) := by
  refine ⟨fun pins s σ H Q I h => wpAny_Call_Name_kw (ld_glob I hg hm ?_ hdb)⟩
  refine PySem.W.callWith_K0 I.kIn kC ?_
  show wpAny _ _ (call (.ref C) []) _ _ _
  have hq := h (s.heap.objs.size + 1) s.heap.objs.size (I.hok.fresh (Nat.le_succ _)) (I.hok.fresh (Nat.le_refl _)) (Nat.ne_of_lt (Nat.lt_succ_self _))
  have I2 := Inv.made (C := C) I
  refine wpAny_call (make_map0 I.kIn hmk hi (fun self => PySem.W.Looks.of_pure (PySem.W.oi_bind self)) ?_)
  have at1 : ((s.heap.push PySem.W.emptyDict).push (PySem.W.instObj C s.heap.objs.size)).get? (s.heap.objs.size + 1) = some (PySem.W.instObj C s.heap.objs.size) := by heap_get
  have t1 : PySem.W.Looks (model X.prog X.w) ((s.heap.push PySem.W.emptyDict).push (PySem.W.instObj C s.heap.objs.size)) (typeOf (.ref (s.heap.objs.size + 1))) (.ref C) := (PySem.W.Looks.ld at1).andThen .now
  have t2 : PySem.W.Looks (model X.prog X.w) ((s.heap.push PySem.W.emptyDict).push (PySem.W.instObj C s.heap.objs.size)) (isInstance (.ref (s.heap.objs.size + 1)) (.type "object")) true := t1.andThen (PySem.W.looks_mroIn I2.kIn hob)
  refine codeAny_call_builtin PySem.W.oi_plain PySem.W.entry_oi (@PySem.W.check_slot (model X.prog X.w) _ _ _ "object.__init__" "object" "__init__" (.ref (s.heap.objs.size + 1)) [] [] _ PySem.W.oi_kind PySem.W.oi_split t2 (PySem.W.oi_args _) ?_)
  rw [PySem.W.oi_run]
  exact wpAny_pure ⟨rfl, ⟨V.ref (s.heap.objs.size + 1), _, I2, rfl, hq⟩⟩
def namesV : Nat → List Str
  | 1 => ["mantissa", "exponent"] | 2 => ["number"] | 3 => ["numbers"] | _ => []
/-- __init__ of the k-th class -/
def spIniW (C : Addr) (j : Nat) : Sp := fun vs H Q _ => ∃ (p dx : Addr) (xs : List V), vs = .ref p :: xs ∧ xs.length = (namesV j).length ∧ H p = some (.ins C dx []) ∧ ∀ H', H' p = some (.ins C dx ((namesV j).zip xs)) → (∀ b, b ≠ p → H' b = H b) → Q .non H'
section
variable {P : Program} {w : World} {K : PySem.W.Frag} {mg : Str → Option Value} {base : Heap} {C : Addr} {Cs : Nat → Addr}
theorem ok_in1 {f : Addr} {fd : FuncData} (F : Fun K "__init__" "Float.__init__" sIn1 f fd) (c : Cls K (Cs 1)) (n1 : NoAttr K (Cs 1) "mantissa") (n2 : NoAttr K (Cs 1) "exponent") : FnOk P w K mg base CX0 1 f fd ["self", "mantissa", "exponent"] (spIniW (Cs 1) 1) := by
  refine F.ok scIn1 (fun vs H Q E h => ?_) (fun cdv A outer s H vs Q E hr h => ?_)
  · obtain ⟨p, dx, xs, rfl, hl, _⟩ := h
    show xs.length + 1 = 3
    rw [hl]; rfl
  obtain ⟨p, dx, xs, rfl, hl, hp, q⟩ := h
  obtain ⟨x0, x1, rfl⟩ : ∃ a b, xs = [a, b] := match xs, hl with | [a, b], _ => ⟨a, b, rfl⟩
  refine ⟨_, pss_cons (ps_fld (pv 0) (pv 1) rfl) (pss_one (ps_fld (pv 0) (pv 2) rfl)), ?_⟩
  refine ⟨_, rfl, _, rfl, p, Cs 1, dx, _, rfl, hp, c, n1, by show 0 < 1000; decide, ?_⟩
  refine ⟨_, rfl, _, rfl, p, Cs 1, dx, _, rfl, upd_same, c, n2, by show 1 < 1000; decide, ?_⟩
  exact q _ upd_same fun b h => by rw [upd_ne h, upd_ne h]
theorem ok_in2 {f : Addr} {fd : FuncData} (F : Fun K "__init__" "Imaginary.__init__" sIn2 f fd) (c : Cls K (Cs 2)) (n1 : NoAttr K (Cs 2) "number") : FnOk P w K mg base CX0 1 f fd ["self", "number"] (spIniW (Cs 2) 2) := by
  refine F.ok scIn2 (fun vs H Q E h => ?_) (fun cdv A outer s H vs Q E hr h => ?_)
  · obtain ⟨p, dx, xs, rfl, hl, _⟩ := h
    show xs.length + 1 = 2
    rw [hl]; rfl
  obtain ⟨p, dx, xs, rfl, hl, hp, q⟩ := h
  obtain ⟨x0, rfl⟩ : ∃ a, xs = [a] := match xs, hl with | [a], _ => ⟨a, rfl⟩
  refine ⟨_, pss_one (ps_fld (pv 0) (pv 1) rfl), ?_⟩
  refine ⟨_, rfl, _, rfl, p, Cs 2, dx, _, rfl, hp, c, n1, by show 0 < 1000; decide, ?_⟩
  exact q _ upd_same fun b h => by rw [upd_ne h]
theorem ok_in3 {f : Addr} {fd : FuncData} (F : Fun K "__init__" "Octets.__init__" sIn3 f fd) (c : Cls K (Cs 3)) (n1 : NoAttr K (Cs 3) "numbers") : FnOk P w K mg base CX0 1 f fd ["self", "numbers"] (spIniW (Cs 3) 3) := by
  refine F.ok scIn3 (fun vs H Q E h => ?_) (fun cdv A outer s H vs Q E hr h => ?_)
  · obtain ⟨p, dx, xs, rfl, hl, _⟩ := h
    show xs.length + 1 = 2
    rw [hl]; rfl
  obtain ⟨p, dx, xs, rfl, hl, hp, q⟩ := h
  obtain ⟨x0, rfl⟩ : ∃ a, xs = [a] := match xs, hl with | [a], _ => ⟨a, rfl⟩
  refine ⟨_, pss_one (ps_fld (pv 0) (pv 1) rfl), ?_⟩
  refine ⟨_, rfl, _, rfl, p, Cs 3, dx, _, rfl, hp, c, n1, by show 0 < 1000; decide, ?_⟩
  exact q _ upd_same fun b h => by rw [upd_ne h]
structure Mks (P : Program) (w : World) (K : PySem.W.Frag) (mg : Str → Option Value) (base : Heap) (Cs fI : Nat → Addr) (fdI : Nat → FuncData) : Prop where
  g0 : mg "Dots" = some (.ref (Cs 0))
  g1 : mg "Float" = some (.ref (Cs 1))
  g2 : mg "Imaginary" = some (.ref (Cs 2))
  g3 : mg "Octets" = some (.ref (Cs 3))
  mk0 : PySem.W.makesIn K (Cs 0) = true
  i0 : PySem.W.findIn K (.ref (Cs 0)) "__init__" = some (some (.builtin "object.__init__"))
  o0 : PySem.W.mroIn K (Cs 0) (.type "object") = some true
  k0 : PySem.W.keepIn K (.ref (Cs 0)) = true
  mk1 : Mk K (Cs 1) (fI 1)
  mk2 : Mk K (Cs 2) (fI 2)
  mk3 : Mk K (Cs 3) (fI 3)
  f1 : FnOk P w K mg base CX0 1 (fI 1) (fdI 1) ["self", "mantissa", "exponent"] (spIniW (Cs 1) 1)
  f2 : FnOk P w K mg base CX0 1 (fI 2) (fdI 2) ["self", "number"] (spIniW (Cs 2) 2)
  f3 : FnOk P w K mg base CX0 1 (fI 3) (fdI 3) ["self", "numbers"] (spIniW (Cs 3) 3)
  b1 : Binds K (fdI 1) ["self", "mantissa", "exponent"] []
  b2 : Binds K (fdI 2) ["self", "number"] []
  b3 : Binds K (fdI 3) ["self", "numbers"] []
end
/-- what never changes: objects of classes, tuples -/
def isI : HO → Bool
  | .ins _ _ _ => true
  | .tup _ => true
  | _ => false
/-- the fields of an object of the j-th class -/
def CFs (Cs : Nat → Addr) (H : Hp) (j : Nat) (fs : List (Str × V)) : Prop := match j with
  | 0 => fs = []
  | 1 => ∃ a b : Int, fs = ([("mantissa", .int a), ("exponent", .int b)] : List (Str × V))
  | 2 => ∃ (q dx : Addr) (a b : Int), fs = ([("number", .ref q)] : List (Str × V)) ∧ H q = some (.ins (Cs 1) dx [("mantissa", .int a), ("exponent", .int b)])
  | _ => ∃ (t : Addr) (is : List Int), fs = ([("numbers", .ref t)] : List (Str × V)) ∧ H t = some (.tup (is.map V.int))
section
variable {Cs : Nat → Addr} {H H' : Hp}
theorem CFs.dots : CFs Cs H 0 [] := rfl
theorem CFs.flt {a b : Int} : CFs Cs H 1 ((namesV 1).zip [.int a, .int b]) := ⟨a, b, rfl⟩
theorem CFs.img {q dx : Addr} {a b : Int} (h : H q = some (.ins (Cs 1) dx ((namesV 1).zip [.int a, .int b]))) : CFs Cs H 2 ((namesV 2).zip [.ref q]) := ⟨q, dx, a, b, rfl, h⟩
theorem CFs.oct {t : Addr} (is : List Int) (h : H t = some (.tup (is.map V.int))) : CFs Cs H 3 ((namesV 3).zip [.ref t]) := ⟨t, is, rfl, h⟩
theorem CFs.map {j : Nat} {fs : List (Str × V)} (k : ∀ b o, isI o = true → H b = some o → H' b = some o) (h : CFs Cs H j fs) : CFs Cs H' j fs := by
  rcases j with _ | _ | _ | j
  · exact h
  · exact h
  · obtain ⟨q, dx, a, b, e, g⟩ := h
    exact ⟨q, dx, a, b, e, k _ _ rfl g⟩
  · obtain ⟨t, is, e, g⟩ := h
    exact ⟨t, is, e, k _ _ rfl g⟩
end
/-- a constant: an atom, or an object of one of the four classes -/
inductive Cst (Cs : Nat → Addr) (H : Hp) : V → Prop
  | non : Cst Cs H .non
  | bl (b : Bool) : Cst Cs H (.bl b)
  | int (i : Int) : Cst Cs H (.int i)
  | str (x : Str) : Cst Cs H (.str x)
  | obj {p dx : Addr} {j : Nat} {fs : List (Str × V)} (hj : j < 4) (h : H p = some (.ins (Cs j) dx fs)) (hf : CFs Cs H j fs) : Cst Cs H (.ref p)
theorem Cst.map {Cs : Nat → Addr} {H H' : Hp} {v : V} (k : ∀ b o, isI o = true → H b = some o → H' b = some o) (h : Cst Cs H v) : Cst Cs H' v := by
  cases h with
  | non => exact .non
  | bl b => exact .bl b
  | int i => exact .int i
  | str x => exact .str x
  | obj hj h hf => exact .obj hj (k _ _ rfl h) (hf.map k)
theorem Cst.up {Cs : Nat → Addr} {H H' : Hp} {v : V} (h : Cst Cs H v) (s : Same H H') : Cst Cs H' v := h.map fun b o _ e => s b o e
/-- what was made so far: pairs of a constant and a text -/
structure Acc (Cs : Nat → Addr) (H0 H : Hp) (ts : List Addr) : Prop where
  sm : Same H0 H
  at_ : ∀ t ∈ ts, ∃ v x, H t = some (.tup [v, .str x]) ∧ Cst Cs H v
theorem Acc.start {Cs : Nat → Addr} (H : Hp) : Acc Cs H H [] := ⟨Same.refl _, fun t h => by cases h⟩
theorem Acc.up {Cs : Nat → Addr} {H0 H H' : Hp} {ts : List Addr} (A : Acc Cs H0 H ts) (s : Same H H') : Acc Cs H0 H' ts :=
  ⟨A.sm.trans s, fun t h => by obtain ⟨v, x, h1, h2⟩ := A.at_ t h; exact ⟨v, x, s _ _ h1, h2.up s⟩⟩
theorem Acc.tup {Cs : Nat → Addr} {H0 H : Hp} {ts : List Addr} {T : Addr} {v : V} {x : Str} (A : Acc Cs H0 H ts) (n : H T = none) (c : Cst Cs H v) : Acc Cs H0 (upd H T (.tup [v, .str x])) (ts ++ [T]) := by
  have s : Same H (upd H T (.tup [v, .str x])) := same_new n
  refine ⟨A.sm.trans s, fun t h => ?_⟩
  rcases List.mem_append.mp h with h | h
  · exact (A.up s).at_ t h
  · rw [List.mem_singleton.mp h]
    exact ⟨v, x, upd_same, c.up s⟩
theorem made_same {H H' : Hp} {x dx C : Addr} (nx : H x = none) (nd : H dx = none) (ne : dx ≠ x) (k : ∀ b, b ≠ x → H' b = (upd (upd H dx (.own x)) x (.ins C dx [])) b) : Same H H' := fun b o e => by
  rw [k b (ne_of_none e nx), upd_ne (ne_of_none e nx), upd_ne (ne_of_none e nd)]
  exact e
theorem made_same0 {H : Hp} {x dx C : Addr} (nx : H x = none) (nd : H dx = none) : Same H (upd (upd H dx (.own x)) x (.ins C dx [])) := fun b o e => by
  rw [upd_ne (ne_of_none e nx), upd_ne (ne_of_none e nd)]
  exact e
end Q8

namespace Q8
open PySem PySem.Spec PyProof.Rows L2 StX
theorem op_mulS {X : Cx} : OpR X (binaryOp .Mult) (fun x y H Q => ∃ (z : Str) (n : Int), x = .str z ∧ y = .int n ∧ PySem.MulOk z n ∧ Q (.str (Txt.mul z n)) H) := by
  intro pins s σ H x y v u Q I rx ry h
  obtain ⟨z, n, rfl, rfl, hz, q⟩ := h
  obtain ⟨t, rfl⟩ := rx
  obtain ⟨t', rfl⟩ := ry
  exact PySem.SB.mul hz (fun t' k => ⟨.str (Txt.mul z n), H, I.tok _, ⟨_, rfl⟩, q⟩)
theorem mul_ok : PySem.MulOk ("0" : Str) 40 := ⟨by decide +kernel, fun _ _ => by decide +kernel, fun _ _ => by decide +kernel⟩
abbrev sCn : Stmt := topS 36
theorem scCn : FnScope ["_law_some"] [] (defScope sCn) := ⟨rfl, rfl, rfl, by decide +kernel, rfl, by decide +kernel, by decide +kernel⟩
def spCn (Cs : Nat → Addr) : Sp := fun vs H Q _ => vs = [] ∧ ∀ (H' : Hp) (q : Addr) (ts : List Addr), Same H H' → H q = none → H' q = some (.lst (ts.map V.ref)) → ts.length = 22 → (∀ t ∈ ts, ∃ v x, H' t = some (.tup [v, .str x]) ∧ Cst Cs H' v) → Q (.ref q) H'
theorem ok_cn {P : Program} {w : World} {K : PySem.W.Frag} {mg : Str → Option Value} {base : Heap} {Cs fI : Nat → Addr} {fdI : Nat → FuncData} {f : Addr} {fd : FuncData} (F : Fun K "_law_constants" "_law_constants" sCn f fd) (M : Mks P w K mg base Cs fI fdI) : FnOk P w K mg base CX0 3 f fd [] (spCn Cs) := by
  refine F.ok scCn (fun vs H Q E h => ?_) (fun cdv A outer s H vs Q E hr h => ?_)
  · rw [h.1]; rfl
  obtain ⟨rfl, q⟩ := h
  refine ⟨_, pss_cons (ps_set (i := 0) scCn.nd rfl (.inl rfl) (pe_lst (pa_cons (pe_tup (pa_cons pe_non (pa_cons pe_str pa_nil))) (pa_cons (pe_tup (pa_cons pe_bl (pa_cons pe_str pa_nil))) (pa_cons (pe_tup (pa_cons pe_bl (pa_cons pe_str pa_nil))) (pa_cons (pe_tup (pa_cons pe_int (pa_cons pe_str pa_nil))) (pa_cons (pe_tup (pa_cons pe_int (pa_cons pe_str pa_nil))) (pa_cons (pe_tup (pa_cons pe_int (pa_cons pe_str pa_nil))) (pa_cons (pe_tup (pa_cons pe_str (pa_cons pe_str pa_nil))) pa_nil)))))))))
    (pss_cons (ps_set (i := 0) scCn.nd rfl (.inl rfl) (pe_op op_cat (pv 0) (pe_lst (pa_cons (pe_tup (pa_cons pe_str (pa_cons pe_str pa_nil))) (pa_cons (pe_tup (pa_cons (pe_make M.mk1 M.f1 hr rfl M.g1 M.b1 .nil pass0 (pa_cons pe_int (pa_cons (pe_un un_neg pe_int) pa_nil))) (pa_cons pe_str pa_nil))) (pa_cons (pe_tup (pa_cons (pe_make M.mk1 M.f1 hr rfl M.g1 M.b1 .nil pass0 (pa_cons pe_int (pa_cons pe_int pa_nil))) (pa_cons pe_str pa_nil))) (pa_cons (pe_tup (pa_cons (pe_makeE M.mk0 M.i0 M.o0 M.k0 rfl M.g0) (pa_cons pe_str pa_nil))) pa_nil)))))))
    (pss_cons (ps_set (i := 0) scCn.nd rfl (.inl rfl) (pe_op op_cat (pv 0) (pe_lst (pa_cons (pe_tup (pa_cons pe_str (pa_cons pe_str pa_nil))) (pa_cons (pe_tup (pa_cons pe_str (pa_cons pe_str pa_nil))) (pa_cons (pe_tup (pa_cons pe_str (pa_cons pe_str pa_nil))) (pa_cons (pe_tup (pa_cons (pe_op op_pow pe_int pe_int) (pa_cons (pe_op op_add_str pe_str (pe_op op_mulS pe_str pe_int)) pa_nil))) pa_nil)))))))
    (pss_cons (ps_set (i := 0) scCn.nd rfl (.inl rfl) (pe_op op_cat (pv 0) (pe_lst (pa_cons (pe_tup (pa_cons pe_str (pa_cons pe_str pa_nil))) pa_nil))))
    (pss_cons (ps_set (i := 0) scCn.nd rfl (.inl rfl) (pe_op op_cat (pv 0) (pe_lst (pa_cons (pe_tup (pa_cons (pe_make M.mk2 M.f2 hr rfl M.g2 M.b2 .nil pass0 (pa_cons (pe_make M.mk1 M.f1 hr rfl M.g1 M.b1 .nil pass0 (pa_cons pe_int (pa_cons pe_int pa_nil))) pa_nil)) (pa_cons pe_str pa_nil))) (pa_cons (pe_tup (pa_cons (pe_make M.mk2 M.f2 hr rfl M.g2 M.b2 .nil pass0 (pa_cons (pe_make M.mk1 M.f1 hr rfl M.g1 M.b1 .nil pass0 (pa_cons pe_int (pa_cons pe_int pa_nil))) pa_nil)) (pa_cons pe_str pa_nil))) (pa_cons (pe_tup (pa_cons (pe_make M.mk3 M.f3 hr rfl M.g3 M.b3 .nil pass0 (pa_cons (pe_tup (pa_cons pe_int (pa_cons pe_int pa_nil))) pa_nil)) (pa_cons pe_str pa_nil))) pa_nil))))))
    (pss_cons (ps_set (i := 0) scCn.nd rfl (.inl rfl) (pe_op op_cat (pv 0) (pe_lst (pa_cons (pe_tup (pa_cons (pe_make M.mk3 M.f3 hr rfl M.g3 M.b3 .nil pass0 (pa_cons (pe_tup (pa_cons pe_int (pa_cons pe_int (pa_cons pe_int (pa_cons pe_int (pa_cons pe_int pa_nil)))))) pa_nil)) (pa_cons pe_str pa_nil))) pa_nil))))
    (pss_one (ps_ret (pe_op op_cat (pv 0) (pe_lst (pa_cons (pe_tup (pa_cons (pe_make M.mk3 M.f3 hr rfl M.g3 M.b3 .nil pass0 (pa_cons (pe_tup pa_nil) pa_nil)) (pa_cons pe_str pa_nil))) (pa_cons (pe_tup (pa_cons (pe_make M.mk1 M.f1 hr rfl M.g1 M.b1 .nil pass0 (pa_cons pe_int (pa_cons pe_int pa_nil))) (pa_cons pe_str pa_nil))) pa_nil))))))))))), ?_⟩
  have A1 := Acc.start (Cs := Cs) H
  refine ⟨by show 2 ≤ sizeLine; decide, fun T2 nT2 => ?_⟩
  have A2 := A1.tup (v := .non) (x := "None") nT2 (.non)
  generalize upd H T2 (.tup [.non, .str "None"]) = H1 at A2 ⊢
  refine ⟨by show 2 ≤ sizeLine; decide, fun T3 nT3 => ?_⟩
  have A3 := A2.tup (v := .bl true) (x := "True") nT3 (.bl _)
  generalize upd H1 T3 (.tup [.bl true, .str "True"]) = H2 at A3 ⊢
  refine ⟨by show 2 ≤ sizeLine; decide, fun T4 nT4 => ?_⟩
  have A4 := A3.tup (v := .bl false) (x := "False") nT4 (.bl _)
  generalize upd H2 T4 (.tup [.bl false, .str "False"]) = H3 at A4 ⊢
  refine ⟨by show 2 ≤ sizeLine; decide, fun T5 nT5 => ?_⟩
  have A5 := A4.tup (v := .int 0) (x := "0") nT5 (.int _)
  generalize upd H3 T5 (.tup [.int 0, .str "0"]) = H4 at A5 ⊢
  refine ⟨by show 2 ≤ sizeLine; decide, fun T6 nT6 => ?_⟩
  have A6 := A5.tup (v := .int 1) (x := "1") nT6 (.int _)
  generalize upd H4 T6 (.tup [.int 1, .str "1"]) = H5 at A6 ⊢
  refine ⟨by show 2 ≤ sizeLine; decide, fun T7 nT7 => ?_⟩
  have A7 := A6.tup (v := .int 17) (x := "17") nT7 (.int _)
  generalize upd H5 T7 (.tup [.int 17, .str "17"]) = H6 at A7 ⊢
  refine ⟨by show 2 ≤ sizeLine; decide, fun T8 nT8 => ?_⟩
  have A8 := A7.tup (v := .str "") (x := "''") nT8 (.str _)
  generalize upd H6 T8 (.tup [.str "", .str "''"]) = H7 at A8 ⊢
  refine ⟨by show 7 ≤ sizeLine; decide, fun L9 nL9 => ?_⟩
  have A9 := A8.up (same_new (o := .lst [.ref T2, .ref T3, .ref T4, .ref T5, .ref T6, .ref T7, .ref T8]) nL9)
  have l9 : (upd H7 L9 (.lst [.ref T2, .ref T3, .ref T4, .ref T5, .ref T6, .ref T7, .ref T8])) L9 = some (.lst [.ref T2, .ref T3, .ref T4, .ref T5, .ref T6, .ref T7, .ref T8]) := upd_same
  generalize upd H7 L9 (.lst [.ref T2, .ref T3, .ref T4, .ref T5, .ref T6, .ref T7, .ref T8]) = H8 at A9 l9 ⊢
  refine ⟨_, rfl, ?_⟩
  have S10 := (Same.refl H).trans A9.sm
  have A10 : Acc Cs H8 H8 _ := ⟨Same.refl _, A9.at_⟩
  refine ⟨by show 2 ≤ sizeLine; decide, fun T11 nT11 => ?_⟩
  have A11 := A10.tup (v := .str "a b") (x := "'a b'") nT11 (.str _)
  generalize upd H8 T11 (.tup [.str "a b", .str "'a b'"]) = H9 at A11 ⊢
  refine ⟨_, rfl, fun x12 d12 nx12 nd12 ne12 => ⟨x12, d12, _, rfl, rfl, upd_same, fun H10 o12 k12 => ⟨rfl, ?_⟩⟩⟩
  have s12 := made_same nx12 nd12 ne12 k12
  have A12 := A11.up s12
  have c12 : Cst Cs H10 (.ref x12) := .obj (j := 1) (by decide) o12 .flt
  refine ⟨by show 2 ≤ sizeLine; decide, fun T13 nT13 => ?_⟩
  have A13 := A12.tup (v := .ref x12) (x := "0.5") nT13 (c12)
  generalize upd H10 T13 (.tup [.ref x12, .str "0.5"]) = H11 at A13 ⊢
  refine fun x14 d14 nx14 nd14 ne14 => ⟨x14, d14, _, rfl, rfl, upd_same, fun H12 o14 k14 => ⟨rfl, ?_⟩⟩
  have s14 := made_same nx14 nd14 ne14 k14
  have A14 := A13.up s14
  have c14 : Cst Cs H12 (.ref x14) := .obj (j := 1) (by decide) o14 .flt
  refine ⟨by show 2 ≤ sizeLine; decide, fun T15 nT15 => ?_⟩
  have A15 := A14.tup (v := .ref x14) (x := "1e309") nT15 (c14)
  generalize upd H12 T15 (.tup [.ref x14, .str "1e309"]) = H13 at A15 ⊢
  refine fun x16 d16 nx16 nd16 ne16 => ?_
  have s16 : Same H13 (upd (upd H13 d16 (.own x16)) x16 (.ins (Cs 0) d16 [])) := made_same0 nx16 nd16
  have o16 : (upd (upd H13 d16 (.own x16)) x16 (.ins (Cs 0) d16 [])) x16 = some (.ins (Cs 0) d16 []) := upd_same
  generalize upd (upd H13 d16 (.own x16)) x16 (.ins (Cs 0) d16 []) = H14 at s16 o16 ⊢
  have A16 := A15.up s16
  have c16 : Cst Cs H14 (.ref x16) := .obj (j := 0) (by decide) o16 .dots
  refine ⟨by show 2 ≤ sizeLine; decide, fun T17 nT17 => ?_⟩
  have A17 := A16.tup (v := .ref x16) (x := "...") nT17 (c16)
  generalize upd H14 T17 (.tup [.ref x16, .str "..."]) = H15 at A17 ⊢
  refine ⟨by show 4 ≤ sizeLine; decide, fun L18 nL18 => ⟨L9, L18, [.ref T2, .ref T3, .ref T4, .ref T5, .ref T6, .ref T7, .ref T8], [.ref T11, .ref T13, .ref T15, .ref T17], rfl, rfl, (same_new nL18) _ _ (A17.sm _ _ l9), upd_same, by show 7 + 4 ≤ sizeLine; decide, fun M18 nM18 => ?_⟩⟩
  have A18 := (A17.up (same_new (o := .lst [.ref T11, .ref T13, .ref T15, .ref T17]) nL18)).up (same_new (o := .lst ([.ref T2, .ref T3, .ref T4, .ref T5, .ref T6, .ref T7, .ref T8] ++ [.ref T11, .ref T13, .ref T15, .ref T17])) nM18)
  have l18 : (upd (upd H15 L18 (.lst [.ref T11, .ref T13, .ref T15, .ref T17])) M18 (.lst ([.ref T2, .ref T3, .ref T4, .ref T5, .ref T6, .ref T7, .ref T8] ++ [.ref T11, .ref T13, .ref T15, .ref T17]))) M18 = some (.lst [.ref T2, .ref T3, .ref T4, .ref T5, .ref T6, .ref T7, .ref T8, .ref T11, .ref T13, .ref T15, .ref T17]) := upd_same
  generalize upd (upd H15 L18 (.lst [.ref T11, .ref T13, .ref T15, .ref T17])) M18 (.lst ([.ref T2, .ref T3, .ref T4, .ref T5, .ref T6, .ref T7, .ref T8] ++ [.ref T11, .ref T13, .ref T15, .ref T17])) = H16 at A18 l18 ⊢
  refine ⟨_, rfl, ?_⟩
  have S19 := S10.trans A18.sm
  have A19 : Acc Cs H16 H16 _ := ⟨Same.refl _, A18.at_⟩
  refine ⟨by show 2 ≤ sizeLine; decide, fun T20 nT20 => ?_⟩
  have A20 := A19.tup (v := .str "it's") (x := "\"it's\"") nT20 (.str _)
  generalize upd H16 T20 (.tup [.str "it's", .str "\"it's\""]) = H17 at A20 ⊢
  refine ⟨by show 2 ≤ sizeLine; decide, fun T21 nT21 => ?_⟩
  have A21 := A20.tup (v := .str "say \"a\"") (x := "'say \"a\"'") nT21 (.str _)
  generalize upd H17 T21 (.tup [.str "say \"a\"", .str "'say \"a\"'"]) = H18 at A21 ⊢
  refine ⟨by show 2 ≤ sizeLine; decide, fun T22 nT22 => ?_⟩
  have A22 := A21.tup (v := .str "'\"") (x := "'\\'\"'") nT22 (.str _)
  generalize upd H18 T22 (.tup [.str "'\"", .str "'\\'\"'"]) = H19 at A22 ⊢
  refine ⟨_, _, rfl, rfl, ⟨by decide, by decide, by decide⟩, ?_⟩
  refine ⟨_, _, rfl, rfl, mul_ok, _, _, rfl, rfl, by decide +kernel, ?_⟩
  refine ⟨by show 2 ≤ sizeLine; decide, fun T23 nT23 => ?_⟩
  have A23 := A22.tup (v := .int (10 ^ (40 : Int).toNat)) (x := ("1" ++ Txt.mul "0" 40)) nT23 (.int _)
  generalize upd H19 T23 (.tup [.int (10 ^ (40 : Int).toNat), .str ("1" ++ Txt.mul "0" 40)]) = H20 at A23 ⊢
  refine ⟨by show 4 ≤ sizeLine; decide, fun L24 nL24 => ⟨M18, L24, [.ref T2, .ref T3, .ref T4, .ref T5, .ref T6, .ref T7, .ref T8, .ref T11, .ref T13, .ref T15, .ref T17], [.ref T20, .ref T21, .ref T22, .ref T23], rfl, rfl, (same_new nL24) _ _ (A23.sm _ _ l18), upd_same, by show 11 + 4 ≤ sizeLine; decide, fun M24 nM24 => ?_⟩⟩
  have A24 := (A23.up (same_new (o := .lst [.ref T20, .ref T21, .ref T22, .ref T23]) nL24)).up (same_new (o := .lst ([.ref T2, .ref T3, .ref T4, .ref T5, .ref T6, .ref T7, .ref T8, .ref T11, .ref T13, .ref T15, .ref T17] ++ [.ref T20, .ref T21, .ref T22, .ref T23])) nM24)
  have l24 : (upd (upd H20 L24 (.lst [.ref T20, .ref T21, .ref T22, .ref T23])) M24 (.lst ([.ref T2, .ref T3, .ref T4, .ref T5, .ref T6, .ref T7, .ref T8, .ref T11, .ref T13, .ref T15, .ref T17] ++ [.ref T20, .ref T21, .ref T22, .ref T23]))) M24 = some (.lst [.ref T2, .ref T3, .ref T4, .ref T5, .ref T6, .ref T7, .ref T8, .ref T11, .ref T13, .ref T15, .ref T17, .ref T20, .ref T21, .ref T22, .ref T23]) := upd_same
  generalize upd (upd H20 L24 (.lst [.ref T20, .ref T21, .ref T22, .ref T23])) M24 (.lst ([.ref T2, .ref T3, .ref T4, .ref T5, .ref T6, .ref T7, .ref T8, .ref T11, .ref T13, .ref T15, .ref T17] ++ [.ref T20, .ref T21, .ref T22, .ref T23])) = H21 at A24 l24 ⊢
  refine ⟨_, rfl, ?_⟩
  have S25 := S19.trans A24.sm
  have A25 : Acc Cs H21 H21 _ := ⟨Same.refl _, A24.at_⟩
  refine ⟨by show 2 ≤ sizeLine; decide, fun T26 nT26 => ?_⟩
  have A26 := A25.tup (v := .str "a\\b\n\tc") (x := "'a\\\\b\\n\\tc'") nT26 (.str _)
  generalize upd H21 T26 (.tup [.str "a\\b\n\tc", .str "'a\\\\b\\n\\tc'"]) = H22 at A26 ⊢
  refine ⟨by show 1 ≤ sizeLine; decide, fun L27 nL27 => ⟨M24, L27, [.ref T2, .ref T3, .ref T4, .ref T5, .ref T6, .ref T7, .ref T8, .ref T11, .ref T13, .ref T15, .ref T17, .ref T20, .ref T21, .ref T22, .ref T23], [.ref T26], rfl, rfl, (same_new nL27) _ _ (A26.sm _ _ l24), upd_same, by show 15 + 1 ≤ sizeLine; decide, fun M27 nM27 => ?_⟩⟩
  have A27 := (A26.up (same_new (o := .lst [.ref T26]) nL27)).up (same_new (o := .lst ([.ref T2, .ref T3, .ref T4, .ref T5, .ref T6, .ref T7, .ref T8, .ref T11, .ref T13, .ref T15, .ref T17, .ref T20, .ref T21, .ref T22, .ref T23] ++ [.ref T26])) nM27)
  have l27 : (upd (upd H22 L27 (.lst [.ref T26])) M27 (.lst ([.ref T2, .ref T3, .ref T4, .ref T5, .ref T6, .ref T7, .ref T8, .ref T11, .ref T13, .ref T15, .ref T17, .ref T20, .ref T21, .ref T22, .ref T23] ++ [.ref T26]))) M27 = some (.lst [.ref T2, .ref T3, .ref T4, .ref T5, .ref T6, .ref T7, .ref T8, .ref T11, .ref T13, .ref T15, .ref T17, .ref T20, .ref T21, .ref T22, .ref T23, .ref T26]) := upd_same
  generalize upd (upd H22 L27 (.lst [.ref T26])) M27 (.lst ([.ref T2, .ref T3, .ref T4, .ref T5, .ref T6, .ref T7, .ref T8, .ref T11, .ref T13, .ref T15, .ref T17, .ref T20, .ref T21, .ref T22, .ref T23] ++ [.ref T26])) = H23 at A27 l27 ⊢
  refine ⟨_, rfl, ?_⟩
  have S28 := S25.trans A27.sm
  have A28 : Acc Cs H23 H23 _ := ⟨Same.refl _, A27.at_⟩
  refine fun x30 d30 nx30 nd30 ne30 => ⟨x30, d30, _, rfl, rfl, upd_same, fun H24 o30 k30 => ⟨rfl, ?_⟩⟩
  have s30 := made_same nx30 nd30 ne30 k30
  have A30 := A28.up s30
  have c30 : Cst Cs H24 (.ref x30) := .obj (j := 1) (by decide) o30 .flt
  refine fun x29 d29 nx29 nd29 ne29 => ⟨x29, d29, _, rfl, rfl, upd_same, fun H25 o29 k29 => ⟨rfl, ?_⟩⟩
  have s29 := made_same nx29 nd29 ne29 k29
  have A29 := A30.up s29
  have c29 : Cst Cs H25 (.ref x29) := .obj (j := 2) (by decide) o29 (.img (s29 _ _ o30))
  refine ⟨by show 2 ≤ sizeLine; decide, fun T31 nT31 => ?_⟩
  have A31 := A29.tup (v := .ref x29) (x := "3j") nT31 (c29)
  generalize upd H25 T31 (.tup [.ref x29, .str "3j"]) = H26 at A31 ⊢
  refine fun x33 d33 nx33 nd33 ne33 => ⟨x33, d33, _, rfl, rfl, upd_same, fun H27 o33 k33 => ⟨rfl, ?_⟩⟩
  have s33 := made_same nx33 nd33 ne33 k33
  have A33 := A31.up s33
  have c33 : Cst Cs H27 (.ref x33) := .obj (j := 1) (by decide) o33 .flt
  refine fun x32 d32 nx32 nd32 ne32 => ⟨x32, d32, _, rfl, rfl, upd_same, fun H28 o32 k32 => ⟨rfl, ?_⟩⟩
  have s32 := made_same nx32 nd32 ne32 k32
  have A32 := A33.up s32
  have c32 : Cst Cs H28 (.ref x32) := .obj (j := 2) (by decide) o32 (.img (s32 _ _ o33))
  refine ⟨by show 2 ≤ sizeLine; decide, fun T34 nT34 => ?_⟩
  have A34 := A32.tup (v := .ref x32) (x := "0j") nT34 (c32)
  generalize upd H28 T34 (.tup [.ref x32, .str "0j"]) = H29 at A34 ⊢
  refine ⟨by show 2 ≤ sizeLine; decide, fun t36 nt36 => ?_⟩
  have A36 := A34.up (same_new (o := .tup [.int 97, .int 39]) nt36)
  have u36 : (upd H29 t36 (.tup [.int 97, .int 39])) t36 = some (.tup [.int 97, .int 39]) := upd_same
  generalize upd H29 t36 (.tup [.int 97, .int 39]) = H30 at A36 u36 ⊢
  refine fun x35 d35 nx35 nd35 ne35 => ⟨x35, d35, _, rfl, rfl, upd_same, fun H31 o35 k35 => ⟨rfl, ?_⟩⟩
  have s35 := made_same nx35 nd35 ne35 k35
  have A35 := A36.up s35
  have c35 : Cst Cs H31 (.ref x35) := .obj (j := 3) (by decide) o35 (.oct [97, 39] (s35 _ _ u36))
  refine ⟨by show 2 ≤ sizeLine; decide, fun T37 nT37 => ?_⟩
  have A37 := A35.tup (v := .ref x35) (x := "b\"a'\"") nT37 (c35)
  generalize upd H31 T37 (.tup [.ref x35, .str "b\"a'\""]) = H32 at A37 ⊢
  refine ⟨by show 3 ≤ sizeLine; decide, fun L38 nL38 => ⟨M27, L38, [.ref T2, .ref T3, .ref T4, .ref T5, .ref T6, .ref T7, .ref T8, .ref T11, .ref T13, .ref T15, .ref T17, .ref T20, .ref T21, .ref T22, .ref T23, .ref T26], [.ref T31, .ref T34, .ref T37], rfl, rfl, (same_new nL38) _ _ (A37.sm _ _ l27), upd_same, by show 16 + 3 ≤ sizeLine; decide, fun M38 nM38 => ?_⟩⟩
  have A38 := (A37.up (same_new (o := .lst [.ref T31, .ref T34, .ref T37]) nL38)).up (same_new (o := .lst ([.ref T2, .ref T3, .ref T4, .ref T5, .ref T6, .ref T7, .ref T8, .ref T11, .ref T13, .ref T15, .ref T17, .ref T20, .ref T21, .ref T22, .ref T23, .ref T26] ++ [.ref T31, .ref T34, .ref T37])) nM38)
  have l38 : (upd (upd H32 L38 (.lst [.ref T31, .ref T34, .ref T37])) M38 (.lst ([.ref T2, .ref T3, .ref T4, .ref T5, .ref T6, .ref T7, .ref T8, .ref T11, .ref T13, .ref T15, .ref T17, .ref T20, .ref T21, .ref T22, .ref T23, .ref T26] ++ [.ref T31, .ref T34, .ref T37]))) M38 = some (.lst [.ref T2, .ref T3, .ref T4, .ref T5, .ref T6, .ref T7, .ref T8, .ref T11, .ref T13, .ref T15, .ref T17, .ref T20, .ref T21, .ref T22, .ref T23, .ref T26, .ref T31, .ref T34, .ref T37]) := upd_same
  generalize upd (upd H32 L38 (.lst [.ref T31, .ref T34, .ref T37])) M38 (.lst ([.ref T2, .ref T3, .ref T4, .ref T5, .ref T6, .ref T7, .ref T8, .ref T11, .ref T13, .ref T15, .ref T17, .ref T20, .ref T21, .ref T22, .ref T23, .ref T26] ++ [.ref T31, .ref T34, .ref T37])) = H33 at A38 l38 ⊢
  refine ⟨_, rfl, ?_⟩
  have S39 := S28.trans A38.sm
  have A39 : Acc Cs H33 H33 _ := ⟨Same.refl _, A38.at_⟩
  refine ⟨by show 5 ≤ sizeLine; decide, fun t41 nt41 => ?_⟩
  have A41 := A39.up (same_new (o := .tup [.int 0, .int 37, .int 255, .int 13, .int 10]) nt41)
  have u41 : (upd H33 t41 (.tup [.int 0, .int 37, .int 255, .int 13, .int 10])) t41 = some (.tup [.int 0, .int 37, .int 255, .int 13, .int 10]) := upd_same
  generalize upd H33 t41 (.tup [.int 0, .int 37, .int 255, .int 13, .int 10]) = H34 at A41 u41 ⊢
  refine fun x40 d40 nx40 nd40 ne40 => ⟨x40, d40, _, rfl, rfl, upd_same, fun H35 o40 k40 => ⟨rfl, ?_⟩⟩
  have s40 := made_same nx40 nd40 ne40 k40
  have A40 := A41.up s40
  have c40 : Cst Cs H35 (.ref x40) := .obj (j := 3) (by decide) o40 (.oct [0, 37, 255, 13, 10] (s40 _ _ u41))
  refine ⟨by show 2 ≤ sizeLine; decide, fun T42 nT42 => ?_⟩
  have A42 := A40.tup (v := .ref x40) (x := "b'\\x00\\x25\\xff\\r\\n'") nT42 (c40)
  generalize upd H35 T42 (.tup [.ref x40, .str "b'\\x00\\x25\\xff\\r\\n'"]) = H36 at A42 ⊢
  refine ⟨by show 1 ≤ sizeLine; decide, fun L43 nL43 => ⟨M38, L43, [.ref T2, .ref T3, .ref T4, .ref T5, .ref T6, .ref T7, .ref T8, .ref T11, .ref T13, .ref T15, .ref T17, .ref T20, .ref T21, .ref T22, .ref T23, .ref T26, .ref T31, .ref T34, .ref T37], [.ref T42], rfl, rfl, (same_new nL43) _ _ (A42.sm _ _ l38), upd_same, by show 19 + 1 ≤ sizeLine; decide, fun M43 nM43 => ?_⟩⟩
  have A43 := (A42.up (same_new (o := .lst [.ref T42]) nL43)).up (same_new (o := .lst ([.ref T2, .ref T3, .ref T4, .ref T5, .ref T6, .ref T7, .ref T8, .ref T11, .ref T13, .ref T15, .ref T17, .ref T20, .ref T21, .ref T22, .ref T23, .ref T26, .ref T31, .ref T34, .ref T37] ++ [.ref T42])) nM43)
  have l43 : (upd (upd H36 L43 (.lst [.ref T42])) M43 (.lst ([.ref T2, .ref T3, .ref T4, .ref T5, .ref T6, .ref T7, .ref T8, .ref T11, .ref T13, .ref T15, .ref T17, .ref T20, .ref T21, .ref T22, .ref T23, .ref T26, .ref T31, .ref T34, .ref T37] ++ [.ref T42]))) M43 = some (.lst [.ref T2, .ref T3, .ref T4, .ref T5, .ref T6, .ref T7, .ref T8, .ref T11, .ref T13, .ref T15, .ref T17, .ref T20, .ref T21, .ref T22, .ref T23, .ref T26, .ref T31, .ref T34, .ref T37, .ref T42]) := upd_same
  generalize upd (upd H36 L43 (.lst [.ref T42])) M43 (.lst ([.ref T2, .ref T3, .ref T4, .ref T5, .ref T6, .ref T7, .ref T8, .ref T11, .ref T13, .ref T15, .ref T17, .ref T20, .ref T21, .ref T22, .ref T23, .ref T26, .ref T31, .ref T34, .ref T37] ++ [.ref T42])) = H37 at A43 l43 ⊢
  refine ⟨_, rfl, ?_⟩
  have S44 := S39.trans A43.sm
  have A44 : Acc Cs H37 H37 _ := ⟨Same.refl _, A43.at_⟩
  refine ⟨by show 0 ≤ sizeLine; decide, fun t46 nt46 => ?_⟩
  have A46 := A44.up (same_new (o := .tup []) nt46)
  have u46 : (upd H37 t46 (.tup [])) t46 = some (.tup []) := upd_same
  generalize upd H37 t46 (.tup []) = H38 at A46 u46 ⊢
  refine fun x45 d45 nx45 nd45 ne45 => ⟨x45, d45, _, rfl, rfl, upd_same, fun H39 o45 k45 => ⟨rfl, ?_⟩⟩
  have s45 := made_same nx45 nd45 ne45 k45
  have A45 := A46.up s45
  have c45 : Cst Cs H39 (.ref x45) := .obj (j := 3) (by decide) o45 (.oct [] (s45 _ _ u46))
  refine ⟨by show 2 ≤ sizeLine; decide, fun T47 nT47 => ?_⟩
  have A47 := A45.tup (v := .ref x45) (x := "b''") nT47 (c45)
  generalize upd H39 T47 (.tup [.ref x45, .str "b''"]) = H40 at A47 ⊢
  refine fun x48 d48 nx48 nd48 ne48 => ⟨x48, d48, _, rfl, rfl, upd_same, fun H41 o48 k48 => ⟨rfl, ?_⟩⟩
  have s48 := made_same nx48 nd48 ne48 k48
  have A48 := A47.up s48
  have c48 : Cst Cs H41 (.ref x48) := .obj (j := 1) (by decide) o48 .flt
  refine ⟨by show 2 ≤ sizeLine; decide, fun T49 nT49 => ?_⟩
  have A49 := A48.tup (v := .ref x48) (x := "0.0") nT49 (c48)
  generalize upd H41 T49 (.tup [.ref x48, .str "0.0"]) = H42 at A49 ⊢
  refine ⟨by show 2 ≤ sizeLine; decide, fun L50 nL50 => ⟨M43, L50, [.ref T2, .ref T3, .ref T4, .ref T5, .ref T6, .ref T7, .ref T8, .ref T11, .ref T13, .ref T15, .ref T17, .ref T20, .ref T21, .ref T22, .ref T23, .ref T26, .ref T31, .ref T34, .ref T37, .ref T42], [.ref T47, .ref T49], rfl, rfl, (same_new nL50) _ _ (A49.sm _ _ l43), upd_same, by show 20 + 2 ≤ sizeLine; decide, fun M50 nM50 => ?_⟩⟩
  have A50 := (A49.up (same_new (o := .lst [.ref T47, .ref T49]) nL50)).up (same_new (o := .lst ([.ref T2, .ref T3, .ref T4, .ref T5, .ref T6, .ref T7, .ref T8, .ref T11, .ref T13, .ref T15, .ref T17, .ref T20, .ref T21, .ref T22, .ref T23, .ref T26, .ref T31, .ref T34, .ref T37, .ref T42] ++ [.ref T47, .ref T49])) nM50)
  have l50 : (upd (upd H42 L50 (.lst [.ref T47, .ref T49])) M50 (.lst ([.ref T2, .ref T3, .ref T4, .ref T5, .ref T6, .ref T7, .ref T8, .ref T11, .ref T13, .ref T15, .ref T17, .ref T20, .ref T21, .ref T22, .ref T23, .ref T26, .ref T31, .ref T34, .ref T37, .ref T42] ++ [.ref T47, .ref T49]))) M50 = some (.lst [.ref T2, .ref T3, .ref T4, .ref T5, .ref T6, .ref T7, .ref T8, .ref T11, .ref T13, .ref T15, .ref T17, .ref T20, .ref T21, .ref T22, .ref T23, .ref T26, .ref T31, .ref T34, .ref T37, .ref T42, .ref T47, .ref T49]) := upd_same
  have nF : H M50 = none := (S44.trans A49.sm).free ((same_new nL50).free nM50)
  exact q _ M50 [T2, T3, T4, T5, T6, T7, T8, T11, T13, T15, T17, T20, T21, T22, T23, T26, T31, T34, T37, T42, T47, T49] (S44.trans A50.sm) nF l50 (by show 22 = 22; rfl) A50.at_
end Q8

namespace Q8
open PySem PySem.Spec PyProof.Rows L2 StX
/-! ### models: dicts with a kind, parts and a spot -/
def seqTs : List Value := [.type "list", .type "tuple", .type "dict"]
/-- what the written part says of the classes of values -/
structure ValI (K : PySem.W.Frag) (C : Addr) (Cs : Nat → Addr) : Prop where
  cl : ∀ j, j < 4 → Cls K (Cs j)
  ha : ∀ j, j < 4 → PySem.W.findIn K (.ref (Cs j)) "__class__" = some (some (.builtin "object.__class__"))
  hn : PySem.W.specialIn K (.builtin "object.__class__") "__get__" = some (some (.builtin "getset_descriptor.__get__"))
  ht : PySem.W.takesIn K (.builtin "object.__class__") = some true
  hm : ∀ j, j < 4 → PySem.W.mroIn K (Cs j) (.type "object") = some true
  kt : ∀ j, j < 4 → ∀ T ∈ seqTs, PySem.W.kitOne K (.ref (Cs j)) T = some false
  kn : ∀ j, j < 4 → PySem.W.kitOne K (.ref (Cs j)) (.ref C) = some false
  nt : ∀ t ∈ ([.type "NoneType", .type "bool", .type "int", .type "str", .type "list", .type "tuple", .type "dict"] : List Value), PySem.W.kitOne K t (.ref C) = some false
  ne : ∀ j, j < 4 → Cs j ≠ C
theorem Cst.ty {K : PySem.W.Frag} {C : Addr} {Cs : Nat → Addr} {H : Hp} {v : V} (W : ValI K C Cs) (h : Cst Cs H v) : ∃ t, TyX K H v t ∧ PySem.W.kitOne K t (.ref C) = some false ∧ ∀ T ∈ seqTs, PySem.W.kitOne K t T = some false := by
  have b : ∀ t ∈ ([.type "NoneType", .type "bool", .type "int", .type "str"] : List Value), ∀ T ∈ seqTs, PySem.W.kitOne K t T = some false := by
    intro t ht T hT
    unfold seqTs at hT
    simp only [List.mem_cons, List.not_mem_nil, or_false] at ht hT
    rcases ht with rfl | rfl | rfl | rfl <;> rcases hT with rfl | rfl | rfl <;> exact kit_ty (by decide +kernel)
  cases h with
  | non => exact ⟨_, .base .non, W.nt _ (by simp), b _ (by simp)⟩
  | bl x => exact ⟨_, .base (.bl x), W.nt _ (by simp), b _ (by simp)⟩
  | int i => exact ⟨_, .base (.int i), W.nt _ (by simp), b _ (by simp)⟩
  | str x => exact ⟨_, .base (.str x), W.nt _ (by simp), b _ (by simp)⟩
  | obj hj h hf => exact ⟨_, .base (.ins h (W.cl _ hj) (W.ha _ hj) W.hn W.ht (W.hm _ hj)), W.kn _ hj, W.kt _ hj⟩
/-- the shape of a model, with where it stands -/
inductive MT where
  | md (d pl sp : Addr) (k : Str) (ps : List MT)
  | at_ (v : V)
  | ls (a : Addr) (ps : List MT)
  | tu (a : Addr) (ps : List MT)
def MT.val : MT → V
  | .md d _ _ _ _ => .ref d
  | .at_ v => v
  | .ls a _ => .ref a
  | .tu a _ => .ref a
/-- the dict of a model; nd: its node, where there is one -/
def mdKv (k : Str) (pl sp : Addr) (nd : Option Addr) : List (Key × V) := [(.inr "kind", .str k), (.inr "parts", .ref pl), (.inr "spot", .ref sp)] ++ (match nd with
  | some p => [(.inr "node", .ref p)]
  | none => [])
mutual
inductive MAt (Cs : Nat → Addr) (nd : Addr → Option Addr) (H : Hp) : MT → Prop
  | md {d pl sp : Addr} {k : Str} {ps : List MT} {xs : List V} : H d = some (.dK (mdKv k pl sp (nd d))) → H pl = some (.lst (ps.map MT.val)) → H sp = some (.lst xs) → xs.length = 4 → (∀ x ∈ xs, isNum x = true) → (Fld.lookup k).isSome = true → ps.length = (fieldsP k).length → MAtL Cs nd H ps → MAt Cs nd H (.md d pl sp k ps)
  | at_ {v : V} : Cst Cs H v → MAt Cs nd H (.at_ v)
  | ls {a : Addr} {ps : List MT} : H a = some (.lst (ps.map MT.val)) → ps.length ≤ 100 → MAtL Cs nd H ps → MAt Cs nd H (.ls a ps)
  | tu {a : Addr} {ps : List MT} : H a = some (.tup (ps.map MT.val)) → ps.length ≤ 100 → MAtL Cs nd H ps → MAt Cs nd H (.tu a ps)
inductive MAtL (Cs : Nat → Addr) (nd : Addr → Option Addr) (H : Hp) : List MT → Prop
  | nil : MAtL Cs nd H []
  | cons {m : MT} {ms : List MT} : MAt Cs nd H m → MAtL Cs nd H ms → MAtL Cs nd H (m :: ms)
end
mutual
theorem MAt.up {Cs : Nat → Addr} {nd : Addr → Option Addr} {H H' : Hp} (s : Same H H') : ∀ {m : MT}, MAt Cs nd H m → MAt Cs nd H' m
  | _, .md h1 h2 h3 h4 h5 h6 h7 h8 => .md (s _ _ h1) (s _ _ h2) (s _ _ h3) h4 h5 h6 h7 (h8.up s)
  | _, .at_ h => .at_ (h.up s)
  | _, .ls h l hs => .ls (s _ _ h) l (hs.up s)
  | _, .tu h l hs => .tu (s _ _ h) l (hs.up s)
theorem MAtL.up {Cs : Nat → Addr} {nd : Addr → Option Addr} {H H' : Hp} (s : Same H H') : ∀ {ms : List MT}, MAtL Cs nd H ms → MAtL Cs nd H' ms
  | _, .nil => .nil
  | _, .cons h hs => .cons (h.up s) (hs.up s)
end
theorem MAtL.mem {Cs : Nat → Addr} {nd : Addr → Option Addr} {H : Hp} : ∀ {ms : List MT}, MAtL Cs nd H ms → ∀ m ∈ ms, MAt Cs nd H m
  | _, .nil, _, h => by cases h
  | _, .cons h hs, m, hm => by
    rcases List.mem_cons.mp hm with rfl | hm
    · exact h
    · exact hs.mem m hm
/-- a part that is a model -/
def MT.dict? : MT → Option MT
  | .md d pl sp k ps => some (.md d pl sp k ps)
  | _ => none
/-- the models below, as the law finds them: in lists, not in tuples -/
def below1 : MT → List MT
  | .ls _ ps => ps.filterMap MT.dict?
  | m => m.dict?.toList
def belowM (ps : List MT) : List MT := ps.flatMap below1
end Q8

namespace Q8
open PySem PySem.Spec PyProof.Rows L2 StX
/-! ### the models below a model -/
def isLs : MT → Bool
  | .ls _ _ => true
  | _ => false
def isMd : MT → Bool
  | .md _ _ _ _ _ => true
  | _ => false
theorem MAt.ty {K : PySem.W.Frag} {C : Addr} {Cs : Nat → Addr} {nd : Addr → Option Addr} {H : Hp} {m : MT} (W : ValI K C Cs) (h : MAt Cs nd H m) : ∃ t, TyX K H m.val t ∧ PySem.W.kitOne K t (.type "list") = some (isLs m) ∧ PySem.W.kitOne K t (.type "dict") = some (isMd m) := by
  cases h with
  | md h1 _ _ _ _ _ _ _ => exact ⟨_, .base (.dK h1), kit_ty (by show _ = some false; decide +kernel), kit_ty (by show _ = some true; decide +kernel)⟩
  | at_ h =>
    obtain ⟨t, h1, _, h3⟩ := h.ty W
    exact ⟨t, h1, h3 _ (by simp [seqTs]), h3 _ (by simp [seqTs])⟩
  | ls h _ _ => exact ⟨_, .base (.lst h), kit_ty (by show _ = some true; decide +kernel), kit_ty (by show _ = some false; decide +kernel)⟩
  | tu h _ _ => exact ⟨_, .base (.tup h), kit_ty (by show _ = some false; decide +kernel), kit_ty (by show _ = some false; decide +kernel)⟩
theorem sameRow_len : ∀ {ps : List (List Str)} {rs : List (Str × Str × Str)}, sameRow ps rs = true → ps.length = rs.length
  | [], [], _ => rfl
  | [n, hd] :: ps, r :: rs, h => by
    obtain ⟨_, h2⟩ := Bool.and_eq_true_iff.mp h
    exact congrArg (· + 1) (sameRow_len h2)
  | [], _ :: _, h => by cases h
  | [] :: _, _, h => by cases h
  | [_] :: _, _, h => by cases h
  | [_, _] :: _, [], h => by cases h
  | (_ :: _ :: _ :: _) :: _, _, h => by cases h
theorem fields_row {k : Str} {rs : List (Str × Str × Str)} (h : Fld.lookup k = some rs) : okRow k = true ∧ sameRow (fieldsP k) rs = true := Bool.and_eq_true_iff.mp (List.all_eq_true.mp rows_ok _ (lookMem h))
theorem fields_len {k : Str} (h : (Fld.lookup k).isSome = true) : (fieldsP k).length ≤ 7 := by
  obtain ⟨rs, hr⟩ := Option.isSome_iff_exists.mp h
  rw [sameRow_len (fields_row hr).2]
  exact rows_small hr
abbrev sBl : Stmt := topS 42
theorem scBl : FnScope ["_law_model_here", "_law_found", "_law_part_here", "_law_one"] ["_law_model_here"] (defScope sBl) := ⟨rfl, rfl, rfl, by decide +kernel, rfl, by decide +kernel, by decide +kernel⟩
def spBl (Cs : Nat → Addr) (nd : Addr → Option Addr) : Sp := fun vs H Q _ => ∃ (d pl sp : Addr) (k : Str) (ps : List MT), vs = [.ref d] ∧ MAt Cs nd H (.md d pl sp k ps) ∧ ∀ (H' : Hp) (q : Addr), H q = none → Same H H' → H' q = some (.lst ((belowM ps).map MT.val)) → Q (.ref q) H'
theorem below1_len {Cs : Nat → Addr} {nd : Addr → Option Addr} {H : Hp} {m : MT} (h : MAt Cs nd H m) : (below1 m).length ≤ 100 := by
  cases h with
  | ls _ hl _ => exact Nat.le_trans (List.length_filterMap_le _ _) hl
  | md _ _ _ _ _ _ _ _ => show 1 ≤ 100; decide
  | at_ _ => show 0 ≤ 100; decide
  | tu _ _ _ => show 0 ≤ 100; decide
theorem belowM_len {Cs : Nat → Addr} {nd : Addr → Option Addr} {H : Hp} : ∀ {ps : List MT}, (∀ m ∈ ps, MAt Cs nd H m) → (belowM ps).length ≤ ps.length * 100
  | [], _ => Nat.le_refl _
  | m :: r, h => by
    show (below1 m ++ belowM r).length ≤ _
    have h1 := below1_len (h m (List.mem_cons_self ..))
    have h2 := belowM_len (ps := r) fun x hx => h x (List.mem_cons_of_mem _ hx)
    rw [List.length_append, List.length_cons]
    omega
theorem belowM_take {ps : List MT} {i : Nat} {m : MT} (h : ps[i]? = some m) : belowM (ps.take (i + 1)) = belowM (ps.take i) ++ below1 m := by
  unfold belowM
  rw [List.take_succ, h, List.flatMap_append]
  show _ ++ List.flatMap below1 [m] = _
  rw [List.flatMap_singleton]
theorem dict_of {m n : MT} (h : m.dict? = some n) : n = m ∧ isMd m = true := by
  cases m with
  | md d pl sp k ps => cases h; exact ⟨rfl, rfl⟩
  | _ => cases h
theorem dict_no {m : MT} (h : m.dict? = none) : isMd m = false := by
  cases m with
  | md d pl sp k ps => cases h
  | _ => rfl
def tDict (K : PySem.W.Frag) : TT := tB (tCB (rIsi K) (tCons (tVar 3) (tCons (tC (.ty "dict")) tNil)))
section
variable {P : Program} {w : World} {K : PySem.W.Frag} {mg : Str → Option Value} {base : Heap} {C : Addr} {Cs : Nat → Addr} {nd : Addr → Option Addr}
theorem ok_bl {f : Addr} {fd : FuncData} (F : Fun K "_law_below" "_law_below" sBl f fd) (Z : Blt mg) (zD : mg "dict" = none) (W : ValI K C Cs) : FnOk P w K mg base CX0 1 f fd ["_law_model_here"] (spBl Cs nd) := by
  refine F.ok scBl (fun vs H Q E h => ?_) (fun cdv A outer s H vs Q E hr h => ?_)
  · obtain ⟨d, pl, sp, k, ps, rfl, _⟩ := h
    rfl
  obtain ⟨d, pl, sp, k, ps, rfl, hm, q⟩ := h
  have isiK : ∀ X : Cx, X.K = K → CallR X (.builtin "isinstance") (rIsi K) := fun X e => e ▸ call_isi
  refine ⟨_, (pss_cons (ps_set (i := 1) scBl.nd rfl (.inl rfl) (pe_lst pa_nil))
    (pss_cons (ps_for PassesOwn.never rfl (pi_list (pe_dget (hu_of hr) (pv 0) pe_str (fun _ _ => rfl))) (pg_name (i := 2) scBl.nd rfl (.inl rfl)) (pss_one (ps_expr (pe_bm PySem.F.plainAttrs_list PySem.F.slot_list_extend PySem.F.type_list_extend mt_extend (pv 1) (pa_cons (pe_lc (own := [("_law_one", 3)]) (g := gName 3) (tt := tB (tCB (rIsi K) (tCons (tVar 3) (tCons (tC (.ty "dict")) tNil)))) rfl scBl.nd (pi_list (pe_ifExp (pt_val (pe_callB call_isi (by rfl) Z.isI (by decide +kernel) (pa_cons (pv 2) (pa_cons (pe_bltn (v := .ty "list") (by rfl) Z.ls (by decide +kernel) rfl) pa_nil)))) (pv 2) (pe_lst (pa_cons (pv 2) pa_nil)))) (blkOk_by (own := [("_law_one", 3)]) (N := ["_law_model_here", "_law_found", "_law_part_here", "_law_one"]) (sc := (defScope sBl)) (by decide +kernel)) (fun _ _ _ _ _ => (pg_name (i := 3) scBl.nd rfl (.inl rfl))) (fun _ _ _ _ _ => pts_one (pt_val (pe_callB (isiK _ rfl) (by rfl) Z.isI (by decide +kernel) (pa_cons (pv 3) (pa_cons (pe_bltn (v := .ty "dict") (by rfl) zD (by decide +kernel) rfl) pa_nil))))) (fun _ _ _ _ _ => (pv 3))) pa_nil)))))
    (pss_one (ps_ret (pv 1))))), ?_⟩
  cases hm with
  | @md _ _ _ _ _ xs h1 h2 h3 h4 h5 h6 h7 h8 =>
  have hl7 : ps.length ≤ 7 := by rw [h7]; exact fields_len h6
  have zS : (1000 : Nat) ≤ sizeLine := by decide
  refine ⟨by show 0 ≤ sizeLine; exact Nat.zero_le _, fun L nL => ?_⟩
  have s1 : Same H (upd H L (.lst [])) := same_new nL
  have hL : (upd H L (.lst [])) L = some (.lst []) := upd_same
  generalize upd H L (.lst []) = H1 at s1 hL ⊢
  have gP : DGet H1 d (.str "parts") (some (.ref pl)) := by
    have z := DGet.k (k := Sum.inr "parts") (s1 _ _ h1)
    rw [show valV (mdKv k pl sp (nd d)) (Sum.inr "parts") = some (V.ref pl) from by unfold mdKv; cases nd d <;> rfl] at z
    exact z
  refine ⟨_, rfl, d, .ref pl, rfl, gP, pl, rfl, ⟨_, SqL.of (s1 _ _ h2)⟩, ?_⟩
  refine for_list (K := K) (a := pl) (xs := ps.map MT.val) (fun i σ H' => ∃ x2, σ = [some (.ref d), some (.ref L), x2, none] ∧ (∀ b o, b ≠ L → H1 b = some o → H' b = some o) ∧ H' L = some (.lst ((belowM (ps.take i)).map MT.val)))
    ⟨none, rfl, fun b o _ e => e, hL⟩ (fun i σ H' _ ⟨_, _, k, _⟩ => SqL.of (k _ _ (fun z => by rw [z] at h2; rw [nL] at h2; cases h2) (s1 _ _ h2))) ?_ ?_
  · rintro i x σ H3 hx ⟨x2, rfl, k3, l3⟩
    rw [List.getElem?_map] at hx
    obtain ⟨m, hmi, rfl⟩ := Option.map_eq_some_iff.mp hx
    have s3 : Same H H3 := fun b o e => k3 _ _ (fun z => by rw [z, nL] at e; cases e) (s1 _ _ e)
    have hm0 := h8.mem m (List.mem_of_getElem? hmi)
    have hm3 := hm0.up s3
    refine ⟨_, rfl, .inl ⟨rfl, _, SqL.of l3⟩, ?_⟩
    obtain ⟨t, ht, kl, kd⟩ := hm3.ty W
    refine ⟨_, rfl, m.val, .ty "list", _, _, _, rfl, .ty _, ht, kl, _, rfl, ?_⟩
    have blm := below1_len hm0
    have bll := belowM_len (Cs := Cs) (nd := nd) (H := H) (ps := ps.take i) fun y hy => h8.mem y (List.mem_of_mem_take hy)
    have lti : (ps.take i).length ≤ 7 := by rw [List.length_take]; omega
    have items : ∀ (R : Addr → Hp → Prop), (∀ (a : Addr) (H4 : Hp) (ms : List MT), Same H3 H4 → H4 a = some (.lst (ms.map MT.val)) → (∀ n ∈ ms, MAt Cs nd H4 n) → ms.length ≤ 100 → ms.filterMap MT.dict? = below1 m → R a H4) →
        (isLs m = true → ∃ a, m.val = .ref a ∧ R a H3) ∧ (isLs m = false → ∀ a, H3 a = none → R a (upd H3 a (.lst [m.val]))) := by
      intro R hR
      refine ⟨fun e => ?_, fun e a na => ?_⟩
      · cases hm3 with
        | ls hh hl hs => exact ⟨_, rfl, hR _ H3 _ (Same.refl _) hh (fun n hn => hs.mem n hn) hl rfl⟩
        | _ => cases e
      · refine hR a _ [m] (same_new na) upd_same (fun n hn => by rw [List.mem_singleton.mp hn]; exact hm3.up (same_new na)) (by show 1 ≤ 100; decide) ?_
        rw [fm_one]
        cases m with
        | ls _ _ => cases e
        | _ => rfl
    cases hls : isLs m with
    | true =>
      refine iteT ?_
      refine ⟨_, rfl, ?_⟩
      obtain ⟨a, ea, hR⟩ := (items (fun a H4 => ∃ ms : List MT, Same H3 H4 ∧ H4 a = some (.lst (ms.map MT.val)) ∧ (∀ n ∈ ms, MAt Cs nd H4 n) ∧ ms.length ≤ 100 ∧ ms.filterMap MT.dict? = below1 m) fun a H4 ms e1 e2 e3 e4 e5 => ⟨ms, e1, e2, e3, e4, e5⟩).1 hls
      rw [ea]
      obtain ⟨ms, s4, ha, hms, hl, em⟩ := hR
      refine ⟨a, rfl, ⟨_, SqL.of ha⟩, fun D nD => ?_⟩
      refine lc_list (K := K) (a := a) (xs := ms.map MT.val) (fun j H5 => Same H3 H5 ∧ H5 D = some (.lst (((ms.take j).filterMap MT.dict?).map MT.val))) ⟨same_new nD, upd_same⟩ (fun j H5 _ ⟨s5, _⟩ => SqL.of (s5 _ _ ha)) ?_ ?_
      · rintro j x H5 hx ⟨s5, h5⟩
        rw [List.getElem?_map] at hx
        obtain ⟨n, hn, rfl⟩ := Option.map_eq_some_iff.mp hx
        have hn5 := (hms n (List.mem_of_getElem? hn)).up s5
        obtain ⟨t5, ht5, _, kd5⟩ := hn5.ty W
        refine ⟨rfl, ?_⟩
        refine ⟨_, rfl, n.val, .ty "dict", _, _, _, rfl, .ty _, ht5, kd5, _, rfl, ?_⟩
        have et : (ms.take (j + 1)).filterMap MT.dict? = (ms.take j).filterMap MT.dict? ++ n.dict?.toList := by
          rw [List.take_succ, hn, List.filterMap_append]
          show _ ++ List.filterMap MT.dict? [n] = _
          rw [fm_one]
        cases hd : n.dict? with
        | some n' =>
          obtain ⟨rfl, e⟩ := dict_of hd
          rw [e]
          refine iteT ?_
          refine ⟨_, rfl, _, h5, ?_, fun c o e => ?_, ?_⟩
          · have z1 := List.length_filterMap_le MT.dict? (ms.take j)
            rw [List.length_take] at z1
            rw [List.length_map]
            omega
          · rw [upd_ne (ne_of_none e nD)]
            exact s5 _ _ e
          · rw [upd_same, et, hd, List.map_append]
            rfl
        | none =>
          rw [dict_no hd]
          refine iteF ?_
          refine ⟨s5, ?_⟩
          rw [et, hd]
          show _ = some (HO.lst ((_ ++ []).map MT.val))
          rw [List.append_nil]
          exact h5
      · rintro H5 ⟨s5, h5⟩
        rw [List.length_map, List.take_length, em] at h5
        have LD : L ≠ D := ne_of_none (s4 _ _ l3) nD
        refine ⟨L, D, _, _, rfl, rfl, s5 _ _ (s4 _ _ l3), h5, ?_, _, rfl, fun b o nb e => ?_, ?_⟩
        · rw [List.length_map, List.length_map]
          omega
        · rw [upd_ne nb]
          exact s5 _ _ (s4 _ _ (k3 _ _ nb e))
        · rw [upd_same, belowM_take hmi, List.map_append]
    | false =>
      refine iteF ?_
      refine ⟨_, rfl, by show 1 ≤ sizeLine; decide, fun a na => ?_⟩
      obtain ⟨ms, s4, ha, hms, hl, em⟩ := (items (fun a H4 => ∃ ms : List MT, Same H3 H4 ∧ H4 a = some (.lst (ms.map MT.val)) ∧ (∀ n ∈ ms, MAt Cs nd H4 n) ∧ ms.length ≤ 100 ∧ ms.filterMap MT.dict? = below1 m) fun a H4 ms e1 e2 e3 e4 e5 => ⟨ms, e1, e2, e3, e4, e5⟩).2 hls a na
      generalize upd H3 a (.lst [m.val]) = H4 at s4 ha hms ⊢
      refine ⟨a, rfl, ⟨_, SqL.of ha⟩, fun D nD => ?_⟩
      refine lc_list (K := K) (a := a) (xs := ms.map MT.val) (fun j H5 => Same H4 H5 ∧ H5 D = some (.lst (((ms.take j).filterMap MT.dict?).map MT.val))) ⟨same_new nD, upd_same⟩ (fun j H5 _ ⟨s5, _⟩ => SqL.of (s5 _ _ ha)) ?_ ?_
      · rintro j x H5 hx ⟨s5, h5⟩
        rw [List.getElem?_map] at hx
        obtain ⟨n, hn, rfl⟩ := Option.map_eq_some_iff.mp hx
        have hn5 := (hms n (List.mem_of_getElem? hn)).up s5
        obtain ⟨t5, ht5, _, kd5⟩ := hn5.ty W
        refine ⟨rfl, ?_⟩
        refine ⟨_, rfl, n.val, .ty "dict", _, _, _, rfl, .ty _, ht5, kd5, _, rfl, ?_⟩
        have et : (ms.take (j + 1)).filterMap MT.dict? = (ms.take j).filterMap MT.dict? ++ n.dict?.toList := by
          rw [List.take_succ, hn, List.filterMap_append]
          show _ ++ List.filterMap MT.dict? [n] = _
          rw [fm_one]
        cases hd : n.dict? with
        | some n' =>
          obtain ⟨rfl, e⟩ := dict_of hd
          rw [e]
          refine iteT ?_
          refine ⟨_, rfl, _, h5, ?_, fun c o e => ?_, ?_⟩
          · have z1 := List.length_filterMap_le MT.dict? (ms.take j)
            rw [List.length_take] at z1
            rw [List.length_map]
            omega
          · rw [upd_ne (ne_of_none e nD)]
            exact s5 _ _ e
          · rw [upd_same, et, hd, List.map_append]
            rfl
        | none =>
          rw [dict_no hd]
          refine iteF ?_
          refine ⟨s5, ?_⟩
          rw [et, hd]
          show _ = some (HO.lst ((_ ++ []).map MT.val))
          rw [List.append_nil]
          exact h5
      · rintro H5 ⟨s5, h5⟩
        rw [List.length_map, List.take_length, em] at h5
        have LD : L ≠ D := ne_of_none (s4 _ _ l3) nD
        refine ⟨L, D, _, _, rfl, rfl, s5 _ _ (s4 _ _ l3), h5, ?_, _, rfl, fun b o nb e => ?_, ?_⟩
        · rw [List.length_map, List.length_map]
          omega
        · rw [upd_ne nb]
          exact s5 _ _ (s4 _ _ (k3 _ _ nb e))
        · rw [upd_same, belowM_take hmi, List.map_append]
  · rintro σ H3 ⟨x2, rfl, k3, l3⟩
    rw [List.length_map, List.take_length] at l3
    exact ⟨_, rfl, q H3 L nL (fun b o e => k3 _ _ (fun z => by rw [z, nL] at e; cases e) (s1 _ _ e)) l3⟩
end
end Q8

namespace Q8
open PySem PySem.Spec PyProof.Rows L2 StX
/-! ### all models of a model, each ahead of those below -/
inductive All2 (R : MT → List MT → Prop) : List MT → List MT → Prop
  | nil : All2 R [] []
  | cons {m : MT} {l ms ls : List MT} : R m l → All2 R ms ls → All2 R (m :: ms) (l ++ ls)
/-- of a height below n -/
def MsN : Nat → MT → List MT → Prop
  | 0, _, _ => False
  | n + 1, m, l => ∃ d pl sp k ps ls, m = .md d pl sp k ps ∧ l = m :: ls ∧ All2 (MsN n) (belowM ps) ls
abbrev sMo : Stmt := topS 43
theorem scMo : FnScope ["_law_model_here", "_law_found", "_law_one"] ["_law_model_here"] (defScope sMo) := ⟨rfl, rfl, rfl, by decide +kernel, rfl, by decide +kernel, by decide +kernel⟩
def spMo (Cs : Nat → Addr) (nd : Addr → Option Addr) (n : Nat) : Sp := fun vs H Q _ => ∃ (m : MT) (l : List MT), vs = [m.val] ∧ MAt Cs nd H m ∧ MsN n m l ∧ l.length ≤ 100000 ∧ ∀ (H' : Hp) (q : Addr), H q = none → Same H H' → H' q = some (.lst (l.map MT.val)) → Q (.ref q) H'
theorem dict_mem {ps : List MT} {Cs : Nat → Addr} {nd : Addr → Option Addr} {H : Hp} (h : ∀ m ∈ ps, MAt Cs nd H m) : ∀ n ∈ belowM ps, MAt Cs nd H n := by
  intro n hn
  obtain ⟨m, hm, hnm⟩ := List.mem_flatMap.mp hn
  have hmA := h m hm
  cases m with
  | md d pl sp k qs =>
    have e : n = .md d pl sp k qs := List.mem_singleton.mp hnm
    rw [e]; exact hmA
  | at_ v => cases hnm
  | ls a qs =>
    cases hmA with
    | ls _ _ hs =>
      obtain ⟨x, hx, e⟩ := List.mem_filterMap.mp hnm
      obtain ⟨rfl, _⟩ := dict_of e
      exact hs.mem _ hx
  | tu a qs => cases hnm
theorem All2.split {R : MT → List MT → Prop} : ∀ {ms ls : List MT}, All2 R ms ls → ∀ {i : Nat} {m : MT}, ms[i]? = some m → ∃ A l B, ls = A ++ l ++ B ∧ All2 R (ms.take i) A ∧ R m l ∧ All2 R (ms.drop (i + 1)) B
  | _, _, .nil, i, m, h => by simp at h
  | _, _, .cons (l := l) h hs, 0, m, e => by
    cases e
    exact ⟨[], l, _, rfl, .nil, h, hs⟩
  | _, _, .cons (l := l) h hs, i + 1, m, e => by
    obtain ⟨A, l2, B, rfl, h1, h2, h3⟩ := hs.split (i := i) (m := m) e
    exact ⟨l ++ A, l2, B, by simp, .cons h h1, h2, h3⟩
section
variable {P : Program} {w : World} {K : PySem.W.Frag} {mg : Str → Option Value} {base : Heap} {C : Addr} {Cs : Nat → Addr} {nd : Addr → Option Addr}
theorem no_mo {f : Addr} {fd : FuncData} {k : Nat} : FnOk P w K mg base CX0 k f fd ["_law_model_here"] (spMo Cs nd 0) :=
  ⟨fun vs H Q E h => by obtain ⟨m, l, _, _, z, _⟩ := h; exact z.elim, fun A outer s H args us vs Q E hr e0 hb r h => by obtain ⟨m, l, _, _, z, _⟩ := h; exact z.elim⟩
theorem ok_mo {n k : Nat} (hk : 1 ≤ k) {f fB : Addr} {fd dB : FuncData} (F : Fun K "_law_models" "_law_models" sMo f fd)
    (BL : FnOk P w K mg base CX0 1 fB dB ["_law_model_here"] (spBl Cs nd)) (bB : Binds K dB ["_law_model_here"] []) (kB : PySem.W.keepIn K (.ref fB) = true) (mB : mg "_law_below" = some (.ref fB))
    (MO : FnOk P w K mg base CX0 k f fd ["_law_model_here"] (spMo Cs nd n)) (bM : Binds K fd ["_law_model_here"] []) (mM : mg "_law_models" = some (.ref f)) : FnOk P w K mg base CX0 (k + 1) f fd ["_law_model_here"] (spMo Cs nd (n + 1)) := by
  refine F.ok scMo (fun vs H Q E h => ?_) (fun cdv A outer s H vs Q E hr h => ?_)
  · obtain ⟨m, l, rfl, _⟩ := h
    rfl
  obtain ⟨m, l, rfl, hm, hms, hl, q⟩ := h
  have hr1 := hr.mono hk
  obtain ⟨d, pl, sp, kd, ps, ls, rfl, rfl, hall⟩ := hms
  refine ⟨_, (pss_cons (ps_set (i := 1) scMo.nd rfl (.inl rfl) (pe_lst (pa_cons (pv 0) pa_nil)))
    (pss_cons (ps_for PassesOwn.never rfl (pi_list (pe_call BL hr1 rfl mB kB bB .nil pass0 (pa_cons (pv 0) pa_nil))) (pg_name (i := 2) scMo.nd rfl (.inl rfl)) (pss_one (ps_expr (pe_bm PySem.F.plainAttrs_list PySem.F.slot_list_extend PySem.F.type_list_extend mt_extend (pv 1) (pa_cons (pe_call MO hr rfl mM F.kp bM .nil pass0 (pa_cons (pv 2) pa_nil)) pa_nil)))))
    (pss_one (ps_ret (pv 1))))), ?_⟩
  have hm0 := hm
  have zL : (100000 : Nat) ≤ sizeLine := by decide
  refine ⟨_, rfl, by show 1 ≤ sizeLine; decide, fun L nL => ?_⟩
  have s1 : Same H (upd H L (.lst [MT.val (.md d pl sp kd ps)])) := same_new nL
  have hL : (upd H L (.lst [MT.val (.md d pl sp kd ps)])) L = some (.lst [MT.val (.md d pl sp kd ps)]) := upd_same
  generalize upd H L (.lst [MT.val (.md d pl sp kd ps)]) = H1 at s1 hL ⊢
  refine ⟨_, rfl, d, pl, sp, kd, ps, rfl, hm.up s1, fun H2 b nb s2 hb => ?_⟩
  have bL : b ≠ L := fun z => by rw [z, hL] at nb; cases nb
  have s12 := s1.trans s2
  refine ⟨b, rfl, ⟨_, SqL.of hb⟩, ?_⟩
  have hbm : ∀ x ∈ belowM ps, MAt Cs nd H x := by
    cases hm0 with
    | md _ _ _ _ _ _ _ h8 => exact dict_mem fun x hx => h8.mem x hx
  refine for_list (K := K) (a := b) (xs := (belowM ps).map MT.val) (fun i σ H' => ∃ x2 A, σ = [some (.ref d), some (.ref L), x2] ∧ (∀ c o, c ≠ L → H2 c = some o → H' c = some o) ∧ (∃ B, ls = A ++ B ∧ All2 (MsN n) ((belowM ps).drop i) B) ∧ H' L = some (.lst ((.md d pl sp kd ps :: A).map MT.val)))
    ⟨none, [], rfl, fun c o _ e => e, ⟨ls, rfl, hall⟩, s2 _ _ hL⟩ (fun i σ H' _ ⟨_, _, _, k, _⟩ => SqL.of (k _ _ bL hb)) ?_ ?_
  · rintro i x σ H3 hx ⟨x2, A, rfl, k3, ⟨B, eB, hB⟩, l3⟩
    rw [List.getElem?_map] at hx
    obtain ⟨m, hmi, rfl⟩ := Option.map_eq_some_iff.mp hx
    have s3 : Same H H3 := fun c o e => k3 _ _ (fun z => by rw [z, nL] at e; cases e) (s12 _ _ e)
    have hd0 : ((belowM ps).drop i)[0]? = some m := by rw [List.getElem?_drop]; exact hmi
    obtain ⟨A0, lm, B2, eB2, hA0, hmm, hB2⟩ := hB.split hd0
    have eA0 : A0 = [] := by cases hA0; rfl
    subst eA0
    rw [List.nil_append] at eB2
    have hlm : (A ++ (lm ++ B2)).length = ls.length := by rw [eB, eB2]
    simp only [List.length_append] at hlm
    have hl2 : ls.length + 1 ≤ 100000 := hl
    refine ⟨_, rfl, .inl ⟨rfl, _, SqL.of l3⟩, _, rfl, m, lm, rfl, (hbm m (List.mem_of_getElem? hmi)).up s3, hmm, by omega, fun H4 D nD s4 hD => ?_⟩
    have LD : L ≠ D := ne_of_none l3 nD
    refine ⟨L, D, _, _, rfl, rfl, s4 _ _ l3, hD, ?_, _, A ++ lm, rfl, fun c o nc e => ?_, ⟨B2, ?_, ?_⟩, ?_⟩
    · simp only [List.length_map, List.length_cons]
      omega
    · rw [upd_ne nc]
      exact s4 _ _ (k3 _ _ nc e)
    · rw [eB, eB2, List.append_assoc]
    · have e : (belowM ps).drop (i + 1) = ((belowM ps).drop i).drop (0 + 1) := by rw [List.drop_drop]
      rw [e]; exact hB2
    · rw [upd_same]
      simp
  · rintro σ H3 ⟨x2, A, rfl, k3, ⟨B, eB, hB⟩, l3⟩
    rw [List.length_map] at hB
    rw [List.drop_length] at hB
    have eB0 : B = [] := by cases hB; rfl
    rw [eB0, List.append_nil] at eB
    rw [← eB] at l3
    exact ⟨_, rfl, q H3 L nL (fun c o e => k3 _ _ (fun z => by rw [z, nL] at e; cases e) (s12 _ _ e)) l3⟩
end
end Q8

namespace Q8
open PySem PySem.Spec PyProof.Rows L2 StX TL
/-! ### what a word of the law's table asks for, and at what price -/
def inner (h : Str) : Str := cutS h none (some (-1))
def endC (h : Str) : Option Nat := atI h.cps.toList (-1)
def gwB (h : Str) : Bool := !(Builtin.Str.occurrences ("GW" : Str) h 0 ("GW" : Str).length 1).isEmpty
def leafB (h : Str) : Bool := decide (h = "N") || decide (h = "B") || gwB h || decide (h = "V")
/-- of a word for a model: its price and its height where it is small -/
def HMT : List (Str × Nat × Nat) := [("S", 1, 2), ("E", 2, 3), ("T", 1, 2), ("O", 1, 1), ("U", 1, 1), ("X", 1, 1), ("P", 1, 1), ("C", 1, 1), ("arguments", 1, 2), ("keyword", 3, 5), ("comprehension", 5, 5), ("withitem", 3, 5), ("match_case", 3, 5),
  ("ExceptHandler", 2, 5), ("alias", 1, 2), ("arg", 1, 2), ("JoinedStr", 1, 2), ("Module", 1, 2), ("Match", 6, 8), ("Dict", 1, 2), ("Call", 6, 8), ("Try", 6, 8)]
def pm (h : Str) : Nat := ((HMT.lookup h).getD (0, 0)).1
def fm (h : Str) : Nat := ((HMT.lookup h).getD (0, 0)).2
def okW : Nat → Str → Bool
  | 0, _ => false
  | n + 1, h => match endC h with
    | none => false
    | some c => decide (h.length ≤ 100) && (if decide (c ∈ ("*+" : Str).cps.toList) || decide (V.str ⟨#[c]⟩ = V.str "?") then okW n (inner h) else leafB h || (HMT.lookup h).isSome)
/-- the price of a part; b: of a small one -/
def pp (b : Bool) : Nat → Str → Nat
  | 0, _ => 0
  | n + 1, h => match endC h with
    | none => 0
    | some c => if decide (c ∈ ("*+" : Str).cps.toList) then ((if decide (V.str ⟨#[c]⟩ = V.str "+") then 1 else 0) + (if b then 0 else 2)) * pp b n (inner h)
        else if decide (V.str ⟨#[c]⟩ = V.str "?") then (if b then 0 else pp b n (inner h))
        else if leafB h then 0 else pm h
/-- the draws of a part of its own -/
def od : Nat → Str → Nat
  | 0, _ => 0
  | n + 1, h => match endC h with
    | none => 0
    | some c => if decide (c ∈ ("*+" : Str).cps.toList) then 1 + 3 * od n (inner h) else if decide (V.str ⟨#[c]⟩ = V.str "?") then 1 + od n (inner h) else 1
/-- how many signs stand behind the word -/
def mks : Nat → Str → Nat
  | 0, _ => 0
  | n + 1, h => match endC h with
    | none => 0
    | some c => if decide (c ∈ ("*+" : Str).cps.toList) || decide (V.str ⟨#[c]⟩ = V.str "?") then 1 + mks n (inner h) else 0
/-- the height of a small part -/
def nf : Nat → Str → Nat
  | 0, _ => 0
  | n + 1, h => match endC h with
    | none => 0
    | some c => if decide (c ∈ ("*+" : Str).cps.toList) then (if decide (V.str ⟨#[c]⟩ = V.str "+") then 1 + nf n (inner h) else 1) else if decide (V.str ⟨#[c]⟩ = V.str "?") then 1 else if leafB h then 1 else 1 + fm h
def whatOf (p : List Str) : Str := p.getD 1 ""
def fldOk (p : List Str) : Bool := match p with
  | [_, w] => okW 3 w && (decide (mks 3 w ≤ 2) && (decide (nf 3 w ≤ 10) && decide (od 3 w ≤ 7)))
  | _ => false
def sumW (f : Str → Nat) (ps : List (List Str)) : Nat := (ps.map fun p => f (whatOf p)).sum
def kindOk (k : Str) : Bool := (Fld.lookup k).isSome && ((fieldsP k).all fldOk && decide (1 + sumW (pp false 3) (fieldsP k) ≤ 21))
def poorOk (h k : Str) : Bool := decide (1 + sumW (pp true 3) (fieldsP k) ≤ pm h) && (fieldsP k).all fun p => decide (nf 3 (whatOf p) + 1 ≤ fm h)
def smallT : List (Str × List Str) := [("S", ["Pass", "Return"]), ("E", ["Name", "Constant"]), ("T", ["MatchAs"])]
def poorG (h : Str) : List Str := (smallT.lookup h).getD (groupP h)
def groupOk (h : Str) : Bool := decide ((grpTx h).length ≤ 1000) && (decide (0 < (groupP h).length) && (decide ((groupP h).length ≤ 100) && ((groupP h).all kindOk && (decide (0 < (poorG h).length) && (decide ((poorG h).length ≤ 100) && ((poorG h).all kindOk && (poorG h).all (poorOk h)))))))
def hmOk (e : Str × Nat × Nat) : Bool := groupOk e.1 && (decide (1 ≤ e.2.1) && (decide (e.2.2 ≤ 8) && (decide (1 ≤ e.2.2) && decide (e.2.1 ≤ 6))))
theorem hm_ok : HMT.all hmOk = true := by decide +kernel
theorem pp_le : ∀ (n : Nat) (h : Str), pp true n h ≤ pp false n h
  | 0, _ => Nat.le_refl _
  | n + 1, h => by
    unfold pp
    cases endC h with
    | none => exact Nat.le_refl _
    | some c =>
      have ih := pp_le n (inner h)
      dsimp only
      simp only [if_true, Bool.false_eq_true, if_false]
      split
      · exact Nat.mul_le_mul (by omega) ih
      · split
        · exact Nat.zero_le _
        · exact Nat.le_refl _
end Q8

namespace Q8
open PySem PySem.Spec PyProof.Rows L2 StX TL
/-! ### the dicts of a model, its height -/
mutual
def MT.mds : MT → List Addr
  | .md d _ _ _ ps => d :: mdsL ps
  | .at_ _ => []
  | .ls _ ps => mdsL ps
  | .tu _ ps => mdsL ps
def mdsL : List MT → List Addr
  | [] => []
  | m :: r => m.mds ++ mdsL r
end
mutual
def MT.hgt : MT → Nat
  | .md _ _ _ _ ps => hgtL ps + 1
  | .at_ _ => 0
  | .ls _ ps => hgtL ps + 1
  | .tu _ ps => hgtL ps + 1
def hgtL : List MT → Nat
  | [] => 0
  | m :: r => max m.hgt (hgtL r)
end
theorem mds_md {d pl sp : Addr} {k : Str} {ps : List MT} : (MT.md d pl sp k ps).mds = d :: mdsL ps := by rw [MT.mds]
theorem mds_at {v : V} : (MT.at_ v).mds = [] := by rw [MT.mds]
theorem mds_ls {a : Addr} {ps : List MT} : (MT.ls a ps).mds = mdsL ps := by rw [MT.mds]
theorem mds_tu {a : Addr} {ps : List MT} : (MT.tu a ps).mds = mdsL ps := by rw [MT.mds]
theorem mdsL_nil : mdsL [] = [] := by rw [mdsL]
theorem mdsL_cons {m : MT} {r : List MT} : mdsL (m :: r) = m.mds ++ mdsL r := by rw [mdsL]
theorem hgt_md {d pl sp : Addr} {k : Str} {ps : List MT} : (MT.md d pl sp k ps).hgt = hgtL ps + 1 := by rw [MT.hgt]
theorem hgt_at {v : V} : (MT.at_ v).hgt = 0 := by rw [MT.hgt]
theorem hgt_ls {a : Addr} {ps : List MT} : (MT.ls a ps).hgt = hgtL ps + 1 := by rw [MT.hgt]
theorem hgt_tu {a : Addr} {ps : List MT} : (MT.tu a ps).hgt = hgtL ps + 1 := by rw [MT.hgt]
theorem hgtL_nil : hgtL [] = 0 := by rw [hgtL]
theorem hgtL_cons {m : MT} {r : List MT} : hgtL (m :: r) = max m.hgt (hgtL r) := by rw [hgtL]
theorem mdsL_app : ∀ {xs ys : List MT}, mdsL (xs ++ ys) = mdsL xs ++ mdsL ys
  | [], _ => by rw [mdsL_nil]; rfl
  | x :: r, ys => by rw [List.cons_append, mdsL_cons, mdsL_cons, mdsL_app, List.append_assoc]
theorem hgtL_app : ∀ {xs ys : List MT}, hgtL (xs ++ ys) = max (hgtL xs) (hgtL ys)
  | [], _ => by rw [hgtL_nil]; simp
  | x :: r, ys => by rw [List.cons_append, hgtL_cons, hgtL_cons, hgtL_app, Nat.max_assoc]
theorem hgtL_mem : ∀ {xs : List MT} {m : MT}, m ∈ xs → m.hgt ≤ hgtL xs
  | x :: r, m, h => by
    rw [hgtL_cons]
    rcases List.mem_cons.mp h with rfl | h
    · exact Nat.le_max_left _ _
    · exact Nat.le_trans (hgtL_mem h) (Nat.le_max_right _ _)
theorem hgtL_le {n : Nat} : ∀ {xs : List MT}, (∀ m ∈ xs, m.hgt ≤ n) → hgtL xs ≤ n
  | [], _ => by rw [hgtL_nil]; exact Nat.zero_le _
  | x :: r, h => by rw [hgtL_cons]; exact Nat.max_le.mpr ⟨h x (List.mem_cons_self ..), hgtL_le fun m hm => h m (List.mem_cons_of_mem _ hm)⟩
def MT.adr : MT → Addr
  | .md d _ _ _ _ => d
  | _ => 0
mutual
theorem MAt.has {Cs : Nat → Addr} {nd : Addr → Option Addr} {H : Hp} : ∀ {m : MT}, MAt Cs nd H m → ∀ d ∈ m.mds, ∃ kvs, H d = some (.dK kvs)
  | _, .md h1 _ _ _ _ _ _ h8, d, hd => by
    rw [mds_md] at hd
    rcases List.mem_cons.mp hd with rfl | hd
    · exact ⟨_, h1⟩
    · exact h8.has d hd
  | _, .at_ _, d, hd => by rw [mds_at] at hd; cases hd
  | _, .ls _ _ hs, d, hd => by rw [mds_ls] at hd; exact hs.has d hd
  | _, .tu _ _ hs, d, hd => by rw [mds_tu] at hd; exact hs.has d hd
theorem MAtL.has {Cs : Nat → Addr} {nd : Addr → Option Addr} {H : Hp} : ∀ {ms : List MT}, MAtL Cs nd H ms → ∀ d ∈ mdsL ms, ∃ kvs, H d = some (.dK kvs)
  | _, .nil, d, hd => by rw [mdsL_nil] at hd; cases hd
  | _, .cons h hs, d, hd => by
    rw [mdsL_cons] at hd
    rcases List.mem_append.mp hd with hd | hd
    · exact h.has d hd
    · exact hs.has d hd
end
theorem MAtL.app {Cs : Nat → Addr} {nd : Addr → Option Addr} {H : Hp} : ∀ {xs ys : List MT}, MAtL Cs nd H xs → MAtL Cs nd H ys → MAtL Cs nd H (xs ++ ys)
  | _, _, .nil, h => h
  | _, _, .cons h hs, g => .cons h (hs.app g)
/-! ### the models below -/
theorem dict_list : ∀ {ms : List MT}, List.Sublist (mdsL (ms.filterMap MT.dict?)) (mdsL ms)
  | [] => List.Sublist.refl _
  | m :: r => by
    rw [List.filterMap_cons, mdsL_cons]
    cases e : m.dict? with
    | none => exact (dict_list (ms := r)).trans (List.sublist_append_right _ _)
    | some n =>
      obtain ⟨rfl, _⟩ := dict_of e
      dsimp only
      rw [mdsL_cons]
      exact List.Sublist.append (List.Sublist.refl _) dict_list
theorem below1_sub {m : MT} : List.Sublist (mdsL (below1 m)) m.mds := by
  cases m with
  | md d pl sp k ps =>
    show List.Sublist (mdsL [.md d pl sp k ps]) _
    rw [mdsL_cons, mdsL_nil, List.append_nil]
    exact List.Sublist.refl _
  | at_ v => show List.Sublist (mdsL []) _; rw [mdsL_nil]; exact List.nil_sublist _
  | ls a ps => show List.Sublist (mdsL (ps.filterMap MT.dict?)) _; rw [mds_ls]; exact dict_list
  | tu a ps => show List.Sublist (mdsL []) _; rw [mdsL_nil]; exact List.nil_sublist _
theorem belowM_sub : ∀ {ps : List MT}, List.Sublist (mdsL (belowM ps)) (mdsL ps)
  | [] => List.Sublist.refl _
  | m :: r => by
    show List.Sublist (mdsL (below1 m ++ belowM r)) _
    rw [mdsL_app, mdsL_cons]
    exact List.Sublist.append below1_sub belowM_sub
theorem below1_hgt {m n : MT} (h : n ∈ below1 m) : isMd n = true ∧ n.hgt ≤ m.hgt := by
  cases m with
  | md d pl sp k ps =>
    rw [List.mem_singleton.mp h]
    exact ⟨rfl, Nat.le_refl _⟩
  | at_ v => cases h
  | ls a ps =>
    obtain ⟨x, hx, e⟩ := List.mem_filterMap.mp h
    obtain ⟨rfl, e2⟩ := dict_of e
    rw [hgt_ls]
    have := hgtL_mem hx
    exact ⟨e2, by omega⟩
  | tu a ps => cases h
theorem belowM_hgt {ps : List MT} {n : MT} (h : n ∈ belowM ps) : isMd n = true ∧ n.hgt ≤ hgtL ps := by
  obtain ⟨m, hm, hn⟩ := List.mem_flatMap.mp h
  obtain ⟨h1, h2⟩ := below1_hgt hn
  exact ⟨h1, Nat.le_trans h2 (hgtL_mem hm)⟩
/-- all models of a model -/
theorem msN_ex : ∀ (n : Nat) (m : MT), isMd m = true → m.hgt ≤ n → ∃ l, MsN n m l ∧ l.length ≤ m.mds.length
  | 0, m, hm, h => by
    cases m with
    | md d pl sp k ps => rw [hgt_md] at h; omega
    | _ => cases hm
  | n + 1, m, hm, h => by
    have all : ∀ ms : List MT, (∀ x ∈ ms, isMd x = true ∧ x.hgt ≤ n) → ∃ ls, All2 (MsN n) ms ls ∧ ls.length ≤ (mdsL ms).length := by
      intro ms
      induction ms with
      | nil => intro _; exact ⟨[], .nil, Nat.zero_le _⟩
      | cons x r ih =>
        intro hx
        obtain ⟨l1, a1, b1⟩ := msN_ex n x (hx x (List.mem_cons_self ..)).1 (hx x (List.mem_cons_self ..)).2
        obtain ⟨l2, a2, b2⟩ := ih fun y hy => hx y (List.mem_cons_of_mem _ hy)
        refine ⟨l1 ++ l2, .cons a1 a2, ?_⟩
        rw [mdsL_cons, List.length_append, List.length_append]
        omega
    cases m with
    | md d pl sp k ps =>
      rw [hgt_md] at h
      obtain ⟨ls, a, b⟩ := all (belowM ps) fun x hx => by
        obtain ⟨h1, h2⟩ := belowM_hgt hx
        exact ⟨h1, by omega⟩
      refine ⟨.md d pl sp k ps :: ls, ⟨d, pl, sp, k, ps, ls, rfl, rfl, a⟩, ?_⟩
      have := (belowM_sub (ps := ps)).length_le
      rw [mds_md, List.length_cons, List.length_cons]
      omega
    | _ => cases hm
theorem All2.mds {R : MT → List MT → Prop} (h : ∀ m l, R m l → ∀ x ∈ l, x.adr ∈ m.mds) : ∀ {ms ls : List MT}, All2 R ms ls → ∀ x ∈ ls, x.adr ∈ mdsL ms
  | _, _, .nil, x, hx => by cases hx
  | _, _, .cons h1 h2, x, hx => by
    rw [mdsL_cons]
    rcases List.mem_append.mp hx with hx | hx
    · exact List.mem_append_left _ (h _ _ h1 x hx)
    · exact List.mem_append_right _ (h2.mds h x hx)
theorem msN_mds : ∀ (n : Nat) (m : MT) (l : List MT), MsN n m l → ∀ x ∈ l, x.adr ∈ m.mds
  | 0, _, _, h, _, _ => h.elim
  | n + 1, m, l, h, x, hx => by
    obtain ⟨d, pl, sp, k, ps, ls, rfl, rfl, a⟩ := h
    rw [mds_md]
    rcases List.mem_cons.mp hx with rfl | hx
    · exact List.mem_cons_self ..
    · exact List.mem_cons_of_mem _ (belowM_sub.subset (a.mds (msN_mds n) x hx))
end Q8

namespace Q8
open PySem PySem.Spec PyProof.Rows L2 StX TL
/-! ### while models are drawn -/
/-- the part of H outside of B -/
noncomputable def res (B : Addr → Prop) (H : Hp) : Hp := fun b => open Classical in if B b then none else H b
theorem res_out {B : Addr → Prop} {H : Hp} : Same (res B H) H := fun b o h => by
  unfold res at h
  split at h
  · cases h
  · exact h
theorem res_at {B : Addr → Prop} {H : Hp} {b : Addr} {o : HO} (h : res B H b = some o) : ¬ B b ∧ H b = some o := by
  unfold res at h
  split at h
  · cases h
  · exact ⟨‹_›, h⟩
theorem res_in {B : Addr → Prop} {H : Hp} {b : Addr} {o : HO} (n : ¬ B b) (h : H b = some o) : res B H b = some o := by
  unfold res
  rw [if_neg n, h]
theorem res_up {B B' : Addr → Prop} {H H' : Hp} (h : ∀ b o, ¬ B b → H b = some o → ¬ B' b ∧ H' b = some o) : Same (res B H) (res B' H') := fun b o e => by
  obtain ⟨n, e⟩ := res_at e
  obtain ⟨n', e'⟩ := h b o n e
  exact res_in n' e'
/-- stood in H, and is no object of a class -/
def was (H : Hp) : Addr → Prop := fun b => ∃ o, H b = some o ∧ isI o = false
theorem was_of {H : Hp} {b : Addr} {o : HO} (h : H b = some o) (n : isI o = false := by rfl) : was H b := ⟨o, h, n⟩
theorem not_was {H : Hp} {b : Addr} (h : H b = none) : ¬ was H b := fun ⟨o, z, _⟩ => by rw [h] at z; cases z
structure Ds (H : Hp) (a c lf : Addr) (S : Stm) (L : Int) : Prop where
  st : StmAt H a c S
  lfa : H lf = some (.lst [.int L])
  na : lf ≠ a
  nc : lf ≠ c
def KpX (ex : List Addr) (H H' : Hp) : Prop := ∀ b o, b ∉ ex → H b = some o → H' b = some o
theorem KpX.trans {ex : List Addr} {H H1 H2 : Hp} (x : KpX ex H H1) (y : KpX ex H1 H2) : KpX ex H H2 := fun b o n h => y b o n (x b o n h)
theorem KpX.mono {ex ex' : List Addr} {H H1 : Hp} (x : KpX ex H H1) (h : ∀ b ∈ ex, b ∈ ex') : KpX ex' H H1 := fun b o n e => x b o (fun z => n (h b z)) e
theorem KpX.same {ex : List Addr} {H H' : Hp} (s : Same H H') : KpX ex H H' := fun b o _ e => s b o e
theorem KpX.kept {a c lf : Addr} {H H' : Hp} (k : Kept a c H H') : KpX [a, c, lf] H H' := fun b o n e => by
  refine k b o (fun z => n ?_) (fun z => n ?_) e
  · rw [z]; simp
  · rw [z]; simp
theorem Ds.keep {H H' : Hp} {a c lf : Addr} {S : Stm} {L : Int} (h : Ds H a c lf S L) (s : Same H H') : Ds H' a c lf S L := ⟨h.st.keep s, s _ _ h.lfa, h.na, h.nc⟩
theorem Ds.draw {H H' : Hp} {a c lf : Addr} {S S' : Stm} {L : Int} (h : Ds H a c lf S L) (h' : StmAt H' a c S') (k : Kept a c H H') : Ds H' a c lf S' L := ⟨h', k _ _ h.na h.nc h.lfa, h.na, h.nc⟩
theorem Ds.in_ {H : Hp} {a c lf : Addr} {S : Stm} {L : Int} (h : Ds H a c lf S L) : ∀ b ∈ [a, c, lf], was H b := by
  intro b hb
  simp only [List.mem_cons, List.not_mem_nil, or_false] at hb
  rcases hb with rfl | rfl | rfl
  · exact was_of h.st.lst
  · exact was_of h.st.cel
  · exact was_of h.lfa
theorem Ds.ne {H : Hp} {a c lf D : Addr} {S : Stm} {L : Int} (h : Ds H a c lf S L) (n : H D = none) : D ∉ [a, c, lf] := fun z => not_was n (h.in_ D z)
/-- a part fits its word: a list for * and +, None or what is within for ?, else an atom or a model -/
def Fit : Nat → Str → MT → Prop
  | 0, _, _ => False
  | n + 1, h, m => match endC h with
    | none => False
    | some c => if decide (c ∈ ("*+" : Str).cps.toList) then ∃ D ms, m = .ls D ms ∧ ∀ x ∈ ms, Fit n (inner h) x
        else if decide (V.str ⟨#[c]⟩ = V.str "?") then m = .at_ .non ∨ Fit n (inner h) m
        else (∃ v, m = .at_ v) ∨ isMd m = true
theorem fit_at {n : Nat} {h : Str} {m : MT} {c : Nat} (e : endC h = some c) : Fit (n + 1) h m = if decide (c ∈ ("*+" : Str).cps.toList) then ∃ D ms, m = .ls D ms ∧ ∀ x ∈ ms, Fit n (inner h) x
        else if decide (V.str ⟨#[c]⟩ = V.str "?") then m = .at_ .non ∨ Fit n (inner h) m
        else (∃ v, m = .at_ v) ∨ isMd m = true := by
  rw [Fit, e]
def FitsL (k : Str) (ps : List MT) : Prop := ∀ (i : Nat) p fp, ps[i]? = some p → (fieldsP k)[i]? = some fp → ∃ nm wh, fp = [nm, wh] ∧ Fit 3 wh p
/-- a drawn model: its parts fit the table, and so below -/
inductive CfM : MT → Prop
  | at_ {v : V} : CfM (.at_ v)
  | ls {a : Addr} {ms : List MT} : (∀ m ∈ ms, CfM m) → CfM (.ls a ms)
  | md {d pl sp : Addr} {k : Str} {ps : List MT} : (∀ m ∈ ps, CfM m) → FitsL k ps → CfM (.md d pl sp k ps)
structure DrL (Cs : Nat → Addr) (n : Nat) (ex : List Addr) (a c lf : Addr) (H : Hp) (S : Stm) (L : Int) (H' : Hp) (S' : Stm) (L' : Int) (ms : List MT) (p o : Nat) : Prop where
  ds : Ds H' a c lf S' L'
  kp : KpX ex H H'
  at_ : MAtL Cs (fun _ => none) (res (was H) H') ms
  nd : (mdsL ms).Nodup
  ht : hgtL ms ≤ n
  le : L' ≤ L
  ct : (mdsL ms).length + 20 * L'.toNat ≤ 20 * L.toNat + p
  dr : S'.cnt + 1200 * (L'.toNat : Int) ≤ S.cnt + 1200 * (L.toNat : Int) + 60 * (p : Int) + (o : Int)
  cf : ∀ m ∈ ms, CfM m
section
variable {Cs : Nat → Addr} {n : Nat} {ex : List Addr} {a c lf : Addr} {H H0 H1 H2 : Hp} {S S0 S1 S2 : Stm} {L L1 L2 : Int} {ms : List MT} {m : MT} {p o p2 o2 o0 : Nat}
theorem DrL.start (h : Ds H a c lf S L) : DrL Cs n ex a c lf H S L H S L [] 0 0 :=
  ⟨h, fun _ _ _ e => e, .nil, by rw [mdsL_nil]; exact List.nodup_nil, by rw [hgtL_nil]; exact Nat.zero_le _, Int.le_refl _, by rw [mdsL_nil]; simp, by omega, fun m hm => (by cases hm)⟩
theorem was_up {b : Addr} (k : KpX ex H H1) (hx : ∀ b ∈ ex, was H1 b) (h : was H b) : was H1 b := by
  by_cases z : b ∈ ex
  · exact hx b z
  · obtain ⟨o, e, n⟩ := h
    exact ⟨o, k b o z e, n⟩
/-- a constant is no list -/
theorem was_not {b : Addr} {o : HO} (k : KpX ex H H1) (hx : ∀ b ∈ ex, was H1 b) (i : isI o = true) (e : H1 b = some o) : ¬ was H b := fun z => by
  obtain ⟨o', e', n⟩ := was_up k hx z
  rw [e] at e'
  rw [← Option.some.inj e', i] at n
  cases n
theorem cst_in {v : V} (k : KpX ex H H1) (hx : ∀ b ∈ ex, was H1 b) (h : Cst Cs H1 v) : Cst Cs (res (was H) H1) v := h.map fun b o i e => res_in (was_not k hx i e) e
/-- one more is drawn, and put into the list at D -/
theorem DrL.step {D : Addr} {u : HO} (A : DrL Cs n [a, c, lf, D] a c lf H S L H1 S1 L1 ms p o) (hx : ∀ b ∈ [a, c, lf, D], was H b) (hD : was H1 D) (nD : D ∉ [a, c, lf]) (B : DrL Cs n [a, c, lf] a c lf H1 S1 L1 H2 S2 L2 [m] p2 o2) :
    DrL Cs n [a, c, lf, D] a c lf H S L (upd H2 D u) S2 L2 (ms ++ [m]) (p + p2) (o + o2) := by
  have hx1 : ∀ b ∈ [a, c, lf, D], was H1 b := fun b hb => by
    simp only [List.mem_cons, List.not_mem_nil, or_false] at hb
    rcases hb with rfl | rfl | rfl | rfl
    · exact A.ds.in_ _ (by simp)
    · exact A.ds.in_ _ (by simp)
    · exact A.ds.in_ _ (by simp)
    · exact hD
  simp only [List.mem_cons, List.not_mem_nil, or_false, not_or] at nD
  obtain ⟨n1, n2, n3⟩ := nD
  have s1 : Same (res (was H) H1) (res (was H) (upd H2 D u)) := res_up fun b o n e => ⟨n, by
    have nb : b ∉ [a, c, lf, D] := fun z => n (hx b z)
    rw [upd_ne fun z => nb (by rw [z]; simp)]
    exact B.kp b o (fun z => nb (by simp only [List.mem_cons, List.not_mem_nil, or_false] at z ⊢; rcases z with z | z | z <;> simp [z])) e⟩
  have s2 : Same (res (was H1) H2) (res (was H) (upd H2 D u)) := res_up fun b o n e => by
    refine ⟨fun z => n (was_up A.kp hx1 z), ?_⟩
    rw [upd_ne fun z => n (by rw [z]; exact hD)]
    exact e
  have e1 : mdsL [m] = m.mds := by rw [mdsL_cons, mdsL_nil, List.append_nil]
  refine ⟨⟨⟨by rw [upd_ne (Ne.symm n1)]; exact B.ds.st.lst, by rw [upd_ne (Ne.symm n2)]; exact B.ds.st.cel, B.ds.st.ne, B.ds.st.len, B.ds.st.cur0, B.ds.st.cnt0, B.ds.st.mix0, B.ds.st.mix1⟩, by rw [upd_ne (Ne.symm n3)]; exact B.ds.lfa, B.ds.na, B.ds.nc⟩, ?_, (A.at_.up s1).app (B.at_.up s2), ?_, ?_, Int.le_trans B.le A.le, ?_, ?_, fun x hx => (List.mem_append.mp hx).elim (A.cf x) (B.cf x)⟩
  · intro b o nb e
    rw [upd_ne fun z => nb (by rw [z]; simp)]
    exact B.kp b o (fun z => nb (by simp only [List.mem_cons, List.not_mem_nil, or_false] at z ⊢; rcases z with z | z | z <;> simp [z])) (A.kp b o nb e)
  · rw [mdsL_app, List.nodup_append]
    refine ⟨A.nd, B.nd, fun x hx y hy e => ?_⟩
    subst e
    obtain ⟨k1, g1⟩ := A.at_.has x hx
    obtain ⟨k2, g2⟩ := B.at_.has x hy
    exact (res_at g2).1 (was_of (res_at g1).2)
  · rw [hgtL_app]
    exact Nat.max_le.mpr ⟨A.ht, B.ht⟩
  · have := A.ct
    have := B.ct
    rw [mdsL_app, List.length_append]
    omega
  · have := A.dr
    have := B.dr
    omega
/-- what was done before -/
theorem DrL.pre {D : Addr} (h : Ds H a c lf S L) (k : KpX [a, c, lf] H H0) (h0 : Ds H0 a c lf S0 L) (hc : S0.cnt ≤ S.cnt + (o0 : Int)) (nD : H D = none) (A : DrL Cs n [a, c, lf, D] a c lf H0 S0 L H1 S1 L1 ms p o) : DrL Cs n [a, c, lf] a c lf H S L H1 S1 L1 ms p (o0 + o) := by
  have s : Same (res (was H0) H1) (res (was H) H1) := res_up fun b u n e => ⟨fun z => n (was_up k h0.in_ z), e⟩
  refine ⟨A.ds, fun b u nb e => ?_, A.at_.up s, A.nd, A.ht, A.le, A.ct, ?_, A.cf⟩
  · refine A.kp b u (fun z => ?_) (k b u nb e)
    simp only [List.mem_cons, List.not_mem_nil, or_false] at z nb
    rcases z with z | z | z | z
    · exact nb (.inl z)
    · exact nb (.inr (.inl z))
    · exact nb (.inr (.inr z))
    · rw [z, nD] at e; cases e
  · have := A.dr
    omega
theorem DrL.pre0 (h : Ds H a c lf S L) (k : KpX [a, c, lf] H H0) (h0 : Ds H0 a c lf S0 L) (hc : S0.cnt ≤ S.cnt + (o0 : Int)) (A : DrL Cs n [a, c, lf] a c lf H0 S0 L H1 S1 L1 ms p o) : DrL Cs n [a, c, lf] a c lf H S L H1 S1 L1 ms p (o0 + o) := by
  have s : Same (res (was H0) H1) (res (was H) H1) := res_up fun b u n e => ⟨fun z => n (was_up k h0.in_ z), e⟩
  refine ⟨A.ds, k.trans A.kp, A.at_.up s, A.nd, A.ht, A.le, A.ct, ?_, A.cf⟩
  have := A.dr
  omega
theorem DrL.le_ {p' o' n' : Nat} (A : DrL Cs n ex a c lf H S L H1 S1 L1 ms p o) (hp : p ≤ p') (ho : o ≤ o') (hn : n ≤ n') : DrL Cs n' ex a c lf H S L H1 S1 L1 ms p' o' := by
  have := A.ct
  have := A.dr
  exact ⟨A.ds, A.kp, A.at_, A.nd, Nat.le_trans A.ht hn, A.le, by omega, by omega, A.cf⟩
/-- a constant -/
theorem DrL.cst {v : V} (h : Ds H a c lf S L) (k : KpX [a, c, lf] H H1) (h1 : Ds H1 a c lf S1 L) (hc : S1.cnt ≤ S.cnt + (o : Int)) (x : Cst Cs (res (was H) H1) v) : DrL Cs n [a, c, lf] a c lf H S L H1 S1 L [.at_ v] 0 o := by
  have e1 : mdsL [MT.at_ v] = [] := by rw [mdsL_cons, mdsL_nil, mds_at]; rfl
  refine ⟨h1, k, .cons (.at_ x) .nil, by rw [e1]; exact List.nodup_nil, ?_, Int.le_refl _, by rw [e1]; simp, by omega, fun m hm => (by rw [List.mem_singleton.mp hm]; exact .at_)⟩
  rw [hgtL_cons, hgtL_nil, hgt_at]
  exact Nat.zero_le _
/-- a list of what was drawn -/
theorem DrL.lst {D : Addr} (h : H D = none) (A : DrL Cs n [a, c, lf] a c lf H S L H1 S1 L1 ms p o) (hD : H1 D = some (.lst (ms.map MT.val))) (hl : ms.length ≤ 100) : DrL Cs (n + 1) [a, c, lf] a c lf H S L H1 S1 L1 [.ls D ms] p o := by
  have e1 : mdsL [MT.ls D ms] = mdsL ms := by rw [mdsL_cons, mdsL_nil, mds_ls, List.append_nil]
  refine ⟨A.ds, A.kp, .cons (.ls (res_in (not_was h) hD) hl A.at_) .nil, by rw [e1]; exact A.nd, ?_, A.le, by rw [e1]; exact A.ct, A.dr, fun m hm => (by rw [List.mem_singleton.mp hm]; exact .ls A.cf)⟩
  rw [hgtL_cons, hgtL_nil, hgt_ls]
  have := A.ht
  omega
end
end Q8

namespace Q8
open PySem PySem.Spec PyProof.Rows L2 StX TL
/-! ### a drawn part -/
abbrev sPr : Stmt := topS 38
abbrev nPr : List Str := ["_law_stream", "_law_held", "_law_left", "_law_deep", "_law_many", "_law_none", "_law_k"]
abbrev pPr : List Str := ["_law_stream", "_law_held", "_law_left", "_law_deep"]
theorem scPr : FnScope ["_law_stream", "_law_held", "_law_left", "_law_deep", "_law_many", "_law_none", "_law_k"] ["_law_stream", "_law_held", "_law_left", "_law_deep"] (defScope sPr) := ⟨rfl, rfl, rfl, by decide +kernel, rfl, by decide +kernel, by decide +kernel⟩
theorem okW_at {t : Nat} {h : Str} (ok : okW t h = true) : ∃ n c, t = n + 1 ∧ endC h = some c ∧ h.length ≤ 100 ∧
    (if (decide (c ∈ ("*+" : Str).cps.toList) || decide (V.str ⟨#[c]⟩ = V.str "?")) = true then okW n (inner h) = true else (leafB h || (HMT.lookup h).isSome) = true) := by
  cases t with
  | zero => cases ok
  | succ n =>
    unfold okW at ok
    cases e : endC h with
    | none => rw [e] at ok; cases ok
    | some c =>
      rw [e] at ok
      obtain ⟨h1, h2⟩ := Bool.and_eq_true_iff.mp ok
      refine ⟨n, c, rfl, rfl, of_decide_eq_true h1, ?_⟩
      split at h2
      · rename_i hc; rw [if_pos hc]; exact h2
      · rename_i hc; rw [if_neg hc]; exact h2
theorem pp_at {b : Bool} {n : Nat} {h : Str} {c : Nat} (e : endC h = some c) : pp b (n + 1) h = if decide (c ∈ ("*+" : Str).cps.toList) then ((if decide (V.str ⟨#[c]⟩ = V.str "+") then 1 else 0) + (if b then 0 else 2)) * pp b n (inner h)
        else if decide (V.str ⟨#[c]⟩ = V.str "?") then (if b then 0 else pp b n (inner h))
        else if leafB h then 0 else pm h := by
  rw [pp, e]
theorem od_at {n : Nat} {h : Str} {c : Nat} (e : endC h = some c) : od (n + 1) h = if decide (c ∈ ("*+" : Str).cps.toList) then 1 + 3 * od n (inner h) else if decide (V.str ⟨#[c]⟩ = V.str "?") then 1 + od n (inner h) else 1 := by
  rw [od, e]
theorem mks_at {n : Nat} {h : Str} {c : Nat} (e : endC h = some c) : mks (n + 1) h = if decide (c ∈ ("*+" : Str).cps.toList) || decide (V.str ⟨#[c]⟩ = V.str "?") then 1 + mks n (inner h) else 0 := by
  rw [mks, e]
theorem nf_at {n : Nat} {h : Str} {c : Nat} (e : endC h = some c) : nf (n + 1) h = if decide (c ∈ ("*+" : Str).cps.toList) then (if decide (V.str ⟨#[c]⟩ = V.str "+") then 1 + nf n (inner h) else 1) else if decide (V.str ⟨#[c]⟩ = V.str "?") then 1 else if leafB h then 1 else 1 + fm h := by
  rw [nf, e]
theorem fm_le {h : Str} (hm : (HMT.lookup h).isSome = true) : fm h ≤ 8 ∧ 1 ≤ fm h ∧ 1 ≤ pm h ∧ pm h ≤ 6 ∧ groupOk h = true := by
  obtain ⟨e, he⟩ := Option.isSome_iff_exists.mp hm
  have z := List.all_eq_true.mp hm_ok _ (lookMem he)
  obtain ⟨z1, z⟩ := Bool.and_eq_true_iff.mp z
  obtain ⟨z2, z⟩ := Bool.and_eq_true_iff.mp z
  obtain ⟨z3, z⟩ := Bool.and_eq_true_iff.mp z
  obtain ⟨z4, z5⟩ := Bool.and_eq_true_iff.mp z
  have e1 : fm h = e.2 := by unfold fm; rw [he]; rfl
  have e2 : pm h = e.1 := by unfold pm; rw [he]; rfl
  rw [e1, e2]
  exact ⟨of_decide_eq_true z3, of_decide_eq_true z4, of_decide_eq_true z2, of_decide_eq_true z5, z1⟩
theorem nf_pos {t : Nat} {h : Str} (ok : okW t h = true) : 1 ≤ nf t h ∧ nf t h ≤ mks t h + 9 := by
  induction t generalizing h with
  | zero => cases ok
  | succ n ih =>
    obtain ⟨n', c, e, hc, hl, hk⟩ := okW_at ok
    cases e
    rw [nf_at hc, mks_at hc]
    cases h1 : decide (c ∈ ("*+" : Str).cps.toList) with
    | true =>
      rw [h1, Bool.true_or, if_pos rfl] at hk
      have := ih hk
      simp only [Bool.true_or, if_true]
      split <;> omega
    | false =>
      rw [h1, Bool.false_or] at hk
      simp only [Bool.false_or, Bool.false_eq_true, if_false]
      cases h2 : decide (V.str ⟨#[c]⟩ = V.str "?") with
      | true =>
        rw [h2, if_pos rfl] at hk
        simp only [if_true]
        omega
      | false =>
        rw [h2, if_neg (by decide)] at hk
        simp only [Bool.false_eq_true, if_false]
        cases h3 : leafB h with
        | true => simp
        | false =>
          rw [h3, Bool.false_or] at hk
          have := fm_le hk
          simp only [Bool.false_eq_true, if_false]
          omega
def pb (L dp : Int) : Bool := decide (L < 1) || decide (dp < 1)
def spPr (Cs : Nat → Addr) (n : Nat) : Sp := fun vs H Q _ => ∃ (a c lf : Addr) (S : Stm) (L dp : Int) (h : Str) (t : Nat), vs = [.ref a, .str h, .ref lf, .int dp] ∧ Ds H a c lf S L ∧ okW t h = true ∧ 0 < n ∧ (pb L dp = true → nf t h ≤ n) ∧ (pb L dp = false → mks t h + 9 + 4 * dp.toNat ≤ n) ∧
  S.cnt + 1200 * (L.toNat : Int) + 60 * (pp (pb L dp) t h : Nat) + (od t h : Nat) ≤ 800000 ∧
  ∀ (H' : Hp) (S' : Stm) (L' : Int) (m : MT), DrL Cs n [a, c, lf] a c lf H S L H' S' L' [m] (pp (pb L dp) t h) (od t h) → Fit t h m → Q m.val H'
def spMd (Cs : Nat → Addr) (n : Nat) : Sp := fun vs H Q _ => ∃ (a c lf : Addr) (S : Stm) (L dp : Int) (h : Str), vs = [.ref a, .str h, .ref lf, .int dp] ∧ Ds H a c lf S L ∧ (HMT.lookup h).isSome = true ∧ 0 < n ∧ (pb (L - 1) dp = true → fm h ≤ n) ∧ (pb (L - 1) dp = false → 8 + 4 * dp.toNat ≤ n) ∧
  S.cnt + 1200 * (L.toNat : Int) + 60 * (pm h : Nat) ≤ 800000 ∧
  ∀ (H' : Hp) (S' : Stm) (L' : Int) (m : MT), isMd m = true → DrL Cs n [a, c, lf] a c lf H S L H' S' L' [m] (pm h) 0 → (∀ d pl sp k ps, m = .md d pl sp k ps → MAtL Cs (fun _ => none) (res (fun b => was H b ∨ b = pl) H') ps ∧ sp ≠ pl) → Q m.val H'
theorem many_val (e f : Bool) {x : Int} (h0 : 0 ≤ x) (h3 : x < 3) : ∃ m : Nat, (if e = true then (1 : Int) else 0) + x * (if f = true then (1 : Int) else 0) = (m : Int) ∧ m ≤ (if e = true then 1 else 0) + (if f = true then 2 else 0) := by
  refine ⟨((if e = true then (1 : Int) else 0) + x * (if f = true then (1 : Int) else 0)).toNat, ?_, ?_⟩
  · cases e <;> cases f <;> simp <;> omega
  · cases e <;> cases f <;> simp <;> omega
theorem pb_mono {L L' dp : Int} (hl : L' ≤ L) (e : pb L dp = true) : pb L' dp = true := by
  unfold pb at e ⊢
  rcases Bool.or_eq_true_iff.mp e with z | z
  · have := of_decide_eq_true z
    rw [decide_eq_true (by omega)]; rfl
  · rw [z, Bool.or_true]
theorem pp_mono {t : Nat} {h : Str} {L L' dp : Int} (hl : L' ≤ L) : pp (pb L' dp) t h ≤ pp (pb L dp) t h := by
  cases e : pb L dp with
  | false => cases pb L' dp with
    | false => exact Nat.le_refl _
    | true => exact pp_le t h
  | true =>
    have e' : pb L' dp = true := by
      unfold pb at e ⊢
      rcases Bool.or_eq_true_iff.mp e with z | z
      · have := of_decide_eq_true z
        rw [decide_eq_true (by omega)]; rfl
      · rw [z, Bool.or_true]
    rw [e']
    exact Nat.le_refl _
structure DDefs (P : Program) (w : World) (K : PySem.W.Frag) (mg : Str → Option Value) (base : Heap) (Cs : Nat → Addr) (fD fP fN : Addr) (dD dP dN : FuncData) : Prop where
  D : FnOk P w K mg base CX0 1 fD dD ["_law_stream", "_law_many"] spDraw
  bD : Binds K dD ["_law_stream", "_law_many"] []
  kD : PySem.W.keepIn K (.ref fD) = true
  mD : mg "_law_draw" = some (.ref fD)
  Pk : FnOk P w K mg base CX0 2 fP dP ["_law_stream", "_law_some"] (spPick K)
  bP : Binds K dP ["_law_stream", "_law_some"] []
  kP : PySem.W.keepIn K (.ref fP) = true
  mP : mg "_law_pick" = some (.ref fP)
  N : FnOk P w K mg base CX0 3 fN dN [] (spCn Cs)
  bN : Binds K dN [] []
  kN : PySem.W.keepIn K (.ref fN) = true
  mN : mg "_law_constants" = some (.ref fN)
section
variable {P : Program} {w : World} {K : PySem.W.Frag} {mg : Str → Option Value} {base : Heap} {Cs : Nat → Addr} {fD fP fN : Addr} {dD dP dN : FuncData}
theorem no_pr {f : Addr} {fd : FuncData} {k : Nat} {ps : List Str} : FnOk P w K mg base CX0 k f fd ps (spPr Cs 0) := by
  have no : ∀ vs H Q E, ¬ spPr Cs 0 vs H Q E := fun vs H Q E h => by
    obtain ⟨a, c, lf, S, L, dp, h, t, _, _, _, h1, _⟩ := h
    omega
  exact ⟨fun vs H Q E h => absurd h (no vs H Q E), fun A outer s H args us vs Q E _ _ _ _ h => absurd h (no vs H Q E)⟩
theorem no_md {f : Addr} {fd : FuncData} {k : Nat} {ps : List Str} : FnOk P w K mg base CX0 k f fd ps (spMd Cs 0) := by
  have no : ∀ vs H Q E, ¬ spMd Cs 0 vs H Q E := fun vs H Q E h => by
    obtain ⟨a, c, lf, S, L, dp, h, _, _, _, h1, _⟩ := h
    omega
  exact ⟨fun vs H Q E h => absurd h (no vs H Q E), fun A outer s H args us vs Q E _ _ _ _ h => absurd h (no vs H Q E)⟩
theorem ok_pr {f fM : Addr} {fd dM : FuncData} (F : Fun K "_law_part" "_law_part" sPr f fd) (bF : Binds K fd pPr []) (mF : mg "_law_part" = some (.ref f)) (Z : Blt mg) (Y : DDefs P w K mg base Cs fD fP fN dD dP dN) {n k : Nat} (hk : 3 ≤ k) (ih : FnOk P w K mg base CX0 k f fd pPr (spPr Cs n))
    (MO : FnOk P w K mg base CX0 k fM dM pPr (spMd Cs n)) (bO : Binds K dM pPr []) (kO : PySem.W.keepIn K (.ref fM) = true) (mO : mg "_law_model" = some (.ref fM)) : FnOk P w K mg base CX0 (k + 1) f fd pPr (spPr Cs (n + 1)) := by
  refine F.ok scPr (fun vs H Q E h => ?_) (fun cdv A outer s H vs Q E hr h => ?_)
  · obtain ⟨a, c, lf, S, L, dp, h, t, rfl, _⟩ := h
    rfl
  obtain ⟨a, c, lf, S, L, dp, h, t, rfl, hD, ok, _, hf1, hf2, hcnt, q⟩ := h
  have hr1 := hr.mono (show 1 ≤ k by omega)
  have hr2 := hr.mono (show 2 ≤ k by omega)
  have hr3 := hr.mono hk
  obtain ⟨n', ch, rfl, hc, hl, hk2⟩ := okW_at ok
  have hz : h.length ≤ sizeLine := by
    have z : (1000 : Nat) ≤ sizeLine := by decide
    omega
  have np := nf_pos ok
  refine ⟨_, (C8.pss_cut (ps_if (pt_cmpR op_in_sign (pe_ix ix_str (pv 1) (pe_un un_neg pe_int) (fun _ _ => rfl)) pe_str (by rfl)) (C8.pss_cut (ps_set (i := 4) scPr.nd rfl (.inl rfl) (pe_op op_add (pe_callTy call_int1 (by rfl) Z.it (by decide +kernel) (pa_cons (pe_cmpR op_eq (pe_ix ix_str (pv 1) (pe_un un_neg pe_int) (fun _ _ => rfl)) pe_str (nomark _)) pa_nil)) (pe_op op_mul (pe_call Y.D hr1 rfl Y.mD Y.kD Y.bD .nil pass0 (pa_cons (pv 0) (pa_cons pe_int pa_nil))) (pe_callTy call_int1 (by rfl) Z.it (by decide +kernel) (pa_cons (pe_and (pe_cmpR op_gt (pe_ix ix_list (pv 2) pe_int (fun _ _ => rfl)) pe_int (nomark _)) (pe_one (pe_cmpR op_gt (pv 3) pe_int (nomark _)))) pa_nil)))))
    (pss_one (ps_ret (pe_lc (own := [("_law_k", 6)]) (g := gName 6) (tt := tYes) rfl scPr.nd (pi_range1 (by rfl) Z.rg (pa_cons (pv 4) pa_nil)) (blkOk_by (own := [("_law_k", 6)]) (N := ["_law_stream", "_law_held", "_law_left", "_law_deep", "_law_many", "_law_none", "_law_k"]) (sc := (defScope sPr)) (by decide +kernel)) (fun _ _ _ _ _ => (pg_name (i := 6) scPr.nd rfl (.inl rfl))) (fun _ _ _ _ _ => pts_nil) (fun _ _ _ _ _ => (pe_call ih hr rfl mF F.kp bF .nil pass0 (pa_cons (pv 0) (pa_cons (pe_slice sl_str (pv 1) po_none (po_some (pe_un un_neg pe_int))) (pa_cons (pv 2) (pa_cons (pv 3) pa_nil)))))))))) pss_nil)
    (C8.pss_cut (ps_if (pt_cmpR op_eq (pe_ix ix_str (pv 1) (pe_un un_neg pe_int) (fun _ _ => rfl)) pe_str (nomark _)) (C8.pss_cut (ps_set (i := 5) scPr.nd rfl (.inl rfl) (pe_or (pe_cmpR op_lt (pe_ix ix_list (pv 2) pe_int (fun _ _ => rfl)) pe_int (nomark _)) (pe_or (pe_cmpR op_lt (pv 3) pe_int (nomark _)) (pe_one (pe_cmpR op_eq (pe_call Y.D hr1 rfl Y.mD Y.kD Y.bD .nil pass0 (pa_cons (pv 0) (pa_cons pe_int pa_nil))) pe_int (nomark _))))))
    (pss_one (ps_ret (pe_ifExp (pt_truth (pv 5) (fun _ => rfl)) pe_non (pe_call ih hr rfl mF F.kp bF .nil pass0 (pa_cons (pv 0) (pa_cons (pe_slice sl_str (pv 1) po_none (po_some (pe_un un_neg pe_int))) (pa_cons (pv 2) (pa_cons (pv 3) pa_nil))))))))) pss_nil)
    (C8.pss_cut (ps_if (pt_cmpR op_eq (pv 1) pe_str (nomark _)) (pss_one (ps_ret (pe_call Y.Pk hr2 rfl Y.mP Y.kP Y.bP .nil pass0 (pa_cons (pv 0) (pa_cons (pe_lst (pa_cons pe_str (pa_cons pe_str (pa_cons pe_str (pa_cons pe_str (pa_cons pe_str (pa_cons pe_str (pa_cons pe_str (pa_cons pe_str pa_nil))))))))) pa_nil))))) pss_nil)
    (C8.pss_cut (ps_if (pt_cmpR op_eq (pv 1) pe_str (nomark _)) (pss_one (ps_ret (pe_call Y.D hr1 rfl Y.mD Y.kD Y.bD .nil pass0 (pa_cons (pv 0) (pa_cons pe_int pa_nil))))) pss_nil)
    (C8.pss_cut (ps_if (pt_cmpR op_in_str (pv 1) pe_str (by rfl)) (pss_one (ps_ret (pe_call Y.Pk hr2 rfl Y.mP Y.kP Y.bP .nil pass0 (pa_cons (pv 0) (pa_cons (pe_ifExp (pt_cmpR op_eq (pv 1) pe_str (nomark _)) (pe_lst (pa_cons pe_non (pa_cons pe_bl (pa_cons pe_bl pa_nil)))) (pe_lst (pa_cons (pe_un un_neg pe_int) (pa_cons pe_int (pa_cons pe_int (pa_cons pe_int pa_nil)))))) pa_nil))))) pss_nil)
    (C8.pss_cut (ps_if (pt_cmpR op_eq (pv 1) pe_str (nomark _)) (pss_one (ps_ret (pe_ix ix_tup (pe_call Y.Pk hr2 rfl Y.mP Y.kP Y.bP .nil pass0 (pa_cons (pv 0) (pa_cons (pe_call0 Y.N hr3 (by rfl) Y.mN Y.kN Y.bN .nil pass0) pa_nil))) pe_int (fun _ _ => rfl)))) pss_nil)
    (pss_one (ps_ret (pe_call MO hr rfl mO kO bO .nil pass0 (pa_cons (pv 0) (pa_cons (pv 1) (pa_cons (pv 2) (pa_cons (pv 3) pa_nil))))))))))))), ?_⟩
  have c0 : S.cnt < 1000000 := by omega
  have hat : atI h.cps.toList (-1) = some ch := hc
  refine ⟨fun σ H2 => σ = [some (.ref a), some (.str h), some (.ref lf), some (.int dp), none, none, none] ∧ H2 = H ∧ decide (ch ∈ ("*+" : Str).cps.toList) = false, ?_, ?_⟩
  · refine ⟨_, rfl, _, rfl, h, -1, ch, rfl, rfl, hz, hat, ch, _, rfl, rfl, _, rfl, ?_⟩
    cases hs : decide (ch ∈ ("*+" : Str).cps.toList) with
    | false => exact iteF ⟨rfl, rfl, rfl⟩
    | true =>
      refine iteT ?_
      rw [hs, Bool.true_or, if_pos rfl] at hk2
      have epp : ∀ b, pp b (n' + 1) h = ((if decide (V.str ⟨#[ch]⟩ = V.str "+") then 1 else 0) + (if b then 0 else 2)) * pp b n' (inner h) := fun b => by rw [pp_at hc, hs, if_pos rfl]
      have eod : od (n' + 1) h = 1 + 3 * od n' (inner h) := by rw [od_at hc, hs, if_pos rfl]
      have emk : mks (n' + 1) h = 1 + mks n' (inner h) := by rw [mks_at hc, hs, Bool.true_or, if_pos rfl]
      have enf : nf (n' + 1) h = if decide (V.str ⟨#[ch]⟩ = V.str "+") then 1 + nf n' (inner h) else 1 := by rw [nf_at hc, hs, if_pos rfl]
      have np2 := nf_pos hk2
      refine ⟨fun σ H3 => ∃ (S3 : Stm) (m : Nat), σ = [some (.ref a), some (.str h), some (.ref lf), some (.int dp), some (.int (m : Int)), none, none] ∧ StmAt H3 a c S3 ∧ S3.cnt ≤ S.cnt + 1 ∧ Kept a c H H3 ∧
        m ≤ (if decide (V.str ⟨#[ch]⟩ = V.str "+") then 1 else 0) + (if pb L dp then 0 else 2), ?_, ?_⟩
      · refine ⟨_, rfl, _, rfl, h, -1, ch, rfl, rfl, hz, hat, rfl, .inr ⟨_, rfl, ?_⟩⟩
        refine ⟨_, rfl, a, c, S, 3, rfl, hD.st, c0, by decide, by decide, fun H1 S1 x h1 hx1 k1 x0 x1 => ?_⟩
        have h1l := k1 _ _ hD.na hD.nc hD.lfa
        refine ⟨_, rfl, lf, _, _, _, rfl, rfl, SqL.of h1l, rfl, _, _, rfl, rfl, ?_⟩
        have fin : ∀ b : Bool, (b = true → pb L dp = false) → ∃ m : Nat, (if decide (V.str ⟨#[ch]⟩ = V.str "+") = true then (1 : Int) else 0) + x * (if b = true then (1 : Int) else 0) = (m : Int) ∧ m ≤ (if decide (V.str ⟨#[ch]⟩ = V.str "+") = true then 1 else 0) + (if pb L dp then 0 else 2) := fun b hb => by
          obtain ⟨m, e, le⟩ := many_val (decide (V.str ⟨#[ch]⟩ = V.str "+")) b x0 x1
          refine ⟨m, e, Nat.le_trans le ?_⟩
          cases b with
          | false => simp
          | true => rw [hb rfl]; simp
        refine ⟨_, rfl, ite2 (fun c1 => ⟨_, rfl, _, _, rfl, rfl, .inr ⟨_, rfl, ?_⟩⟩) (fun c1 => .inr ⟨_, rfl, ?_⟩)⟩
        · obtain ⟨m, e, le⟩ := fin (decide (0 < dp)) fun z => by
            have z1 := of_decide_eq_true z
            have z2 := of_decide_eq_true c1
            unfold pb
            rw [decide_eq_false (by omega), decide_eq_false (by omega)]
            rfl
          exact ⟨_, _, rfl, rfl, .inl ⟨by omega, by omega⟩, _, _, rfl, rfl, S1, m, by rw [← e]; rfl, h1, hx1, k1, le⟩
        · obtain ⟨m, e, le⟩ := fin false fun z => by cases z
          exact ⟨_, _, rfl, rfl, .inl ⟨by omega, by omega⟩, _, _, rfl, rfl, S1, m, by rw [← e]; rfl, h1, hx1, k1, le⟩
      · rintro σ H3 ⟨S3, m, rfl, h3, hc3, k3, hm⟩
        have hm3 : m ≤ 3 := by
          revert hm
          cases decide (V.str ⟨#[ch]⟩ = V.str "+") <;> cases pb L dp <;> simp <;> omega
        refine ⟨_, rfl, _, rfl, by omega, by omega, fun D nD => ?_⟩
        have d3 := hD.draw h3 k3
        have d4 := d3.keep (same_new (o := .lst []) nD)
        have hD4 : (upd H3 D (.lst [])) D = some (.lst []) := upd_same
        have kk : KpX [a, c, lf] H (upd H3 D (.lst [])) := (KpX.kept k3).trans (KpX.same (same_new nD))
        have nDH : H D = none := k3.free h3.a0 h3.c0 nD
        have nDx : D ∉ [a, c, lf] := d3.ne nD
        obtain ⟨H4, eH4⟩ : ∃ X : Hp, X = upd H3 D (.lst []) := ⟨_, rfl⟩
        rw [← eH4] at d4 hD4 kk
        have hx : ∀ b ∈ [a, c, lf, D], was H4 b := fun b hb => by
          by_cases z : b = D
          · rw [z]; exact was_of hD4
          · refine d4.in_ b ?_
            simp only [List.mem_cons, List.not_mem_nil, or_false] at hb ⊢
            rcases hb with hb | hb | hb | hb
            · exact .inl hb
            · exact .inr (.inl hb)
            · exact .inr (.inr hb)
            · exact absurd hb z
        have hmm : (m : Int).toNat = m := by omega
        have mp : m * pp (pb L dp) n' (inner h) ≤ pp (pb L dp) (n' + 1) h := by rw [epp]; exact Nat.mul_le_mul_right _ hm
        have mi : ∀ i, i < m → (i + 1) * pp (pb L dp) n' (inner h) ≤ m * pp (pb L dp) n' (inner h) := fun i hi => Nat.mul_le_mul_right _ (by omega)
        have mo : ∀ i, i < m → (i + 1) * od n' (inner h) ≤ 3 * od n' (inner h) := fun i hi => Nat.mul_le_mul_right _ (by omega)
        have key : 0 < m → (pb L dp = true → nf n' (inner h) ≤ n) ∧ (pb L dp = false → mks n' (inner h) + 9 + 4 * dp.toNat ≤ n) := fun h0 => by
          refine ⟨fun e => ?_, fun e => ?_⟩
          · have z := hf1 e
            rw [enf] at z
            rw [e] at hm
            revert z hm
            cases decide (V.str ⟨#[ch]⟩ = V.str "+") <;> simp <;> omega
          · have z := hf2 e
            omega
        refine lc_range (lo := 0) (n := (m : Int).toNat) (fun i H5 => ∃ (S5 : Stm) (L5 : Int) (ms : List MT), DrL Cs n [a, c, lf, D] a c lf H4 S3 L H5 S5 L5 ms (i * pp (pb L dp) n' (inner h)) (i * od n' (inner h)) ∧ H5 D = some (.lst (ms.map MT.val)) ∧ ms.length = i ∧ ∀ x ∈ ms, Fit n' (inner h) x) ?_ ?_ ?_
        · rw [← eH4]
          exact ⟨S3, L, [], by rw [Nat.zero_mul, Nat.zero_mul]; exact .start d4, hD4, rfl, fun x hx => (by cases hx)⟩
        · rintro i H5 hi ⟨S5, L5, ms, A, hL, hlen, hfit⟩
          rw [hmm] at hi
          refine ⟨rfl, ?_⟩
          unfold tYes
          refine iteT ?_
          have e1 : (i + 1) * pp (pb L dp) n' (inner h) = i * pp (pb L dp) n' (inner h) + pp (pb L dp) n' (inner h) := Nat.succ_mul _ _
          have e2 : (i + 1) * od n' (inner h) = i * od n' (inner h) + od n' (inner h) := Nat.succ_mul _ _
          have hdr := A.dr
          have hmi := mi i hi
          have hmo := mo i hi
          have key := key (by omega)
          have hpm := pp_mono (t := n') (h := inner h) (dp := dp) A.le
          refine ⟨_, rfl, _, rfl, _, rfl, _, rfl, h, rfl, hz, _, rfl, _, rfl, ?_⟩
          refine ⟨a, c, lf, S5, L5, dp, inner h, n', rfl, A.ds, hk2, ?_, ?_, ?_, ?_, fun H6 S6 L6 m6 B fB => ?_⟩
          · cases e : pb L dp with
            | true => have := key.1 e; omega
            | false => have := key.2 e; omega
          · intro _
            cases e : pb L dp with
            | true => exact key.1 e
            | false => have := key.2 e; omega
          · intro z
            cases e : pb L dp with
            | true =>
              have z2 := pb_mono (dp := dp) A.le e
              rw [z2] at z; cases z
            | false => exact key.2 e
          · omega
          · have hD6 := B.kp D _ nDx hL
            refine ⟨ms.map MT.val, hD6, ?_, S6, L6, ms ++ [m6], ?_, ?_, ?_, ?_⟩
            · have zS : (1000 : Nat) ≤ sizeLine := by decide
              rw [List.length_map]
              omega
            · have z := A.step (u := .lst (ms.map MT.val ++ [m6.val])) hx (was_of hL) nDx B
              exact z.le_ (by omega) (by omega) (Nat.le_refl _)
            · rw [upd_same, List.map_append]
              rfl
            · rw [List.length_append, hlen]
              rfl
            · intro x hx
              rcases List.mem_append.mp hx with hx | hx
              · exact hfit x hx
              · rw [List.mem_singleton.mp hx]; exact fB
        · rintro H5 ⟨S5, L5, ms, A, hL, hlen, hfit⟩
          rw [hmm] at A hlen
          have hmo : m * od n' (inner h) ≤ 3 * od n' (inner h) := Nat.mul_le_mul_right _ hm3
          exact q H5 S5 L5 (.ls D ms) (((DrL.pre (o0 := 1) hD kk d4 hc3 nDH A).lst nDH hL (by omega)).le_ mp (by omega) (Nat.le_refl _)) (by rw [fit_at hc, hs, if_pos rfl]; exact ⟨D, ms, rfl, hfit⟩)
  rintro σ H2 ⟨rfl, rfl, hs⟩
  rw [hs, Bool.false_or] at hk2
  refine ⟨fun σ H3 => σ = [some (.ref a), some (.str h), some (.ref lf), some (.int dp), none, none, none] ∧ H3 = H2 ∧ decide (V.str ⟨#[ch]⟩ = V.str "?") = false, ?_, ?_⟩
  · refine ⟨_, rfl, _, rfl, h, -1, ch, rfl, rfl, hz, hat, rfl, _, rfl, ?_⟩
    cases hq : decide (V.str ⟨#[ch]⟩ = V.str "?") with
    | false => exact iteF ⟨rfl, rfl, rfl⟩
    | true =>
      refine iteT ?_
      rw [hq, if_pos rfl] at hk2
      have epp : ∀ b, pp b (n' + 1) h = if b then 0 else pp b n' (inner h) := fun b => by rw [pp_at hc, hs, if_neg (by decide), hq, if_pos rfl]
      have eod : od (n' + 1) h = 1 + od n' (inner h) := by rw [od_at hc, hs, if_neg (by decide), hq, if_pos rfl]
      have emk : mks (n' + 1) h = 1 + mks n' (inner h) := by rw [mks_at hc, hs, hq, Bool.false_or, if_pos rfl]
      have np2 := nf_pos hk2
      refine ⟨fun σ H3 => ∃ (S3 : Stm) (b : Bool), σ = [some (.ref a), some (.str h), some (.ref lf), some (.int dp), none, some (.bl b), none] ∧ StmAt H3 a c S3 ∧ S3.cnt ≤ S.cnt + 1 ∧ Kept a c H2 H3 ∧ (b = false → pb L dp = false), ?_, ?_⟩
      · refine ⟨_, rfl, lf, _, _, _, rfl, rfl, SqL.of hD.lfa, rfl, _, _, rfl, rfl, _, rfl, ite2 (fun c1 => ?_) (fun c1 => ?_)⟩
        · exact ⟨S, true, rfl, hD.st, by omega, Kept.refl _ _ _, fun z => by cases z⟩
        · refine ⟨_, rfl, _, _, rfl, rfl, _, rfl, ite2 (fun c2 => ?_) (fun c2 => ?_)⟩
          · exact ⟨S, true, rfl, hD.st, by omega, Kept.refl _ _ _, fun z => by cases z⟩
          · refine ⟨_, rfl, a, c, S, 2, rfl, hD.st, c0, by decide, by decide, fun H1 S1 x h1 hx1 k1 x0 x1 => ⟨rfl, ?_⟩⟩
            have hp : pb L dp = false := by
              unfold pb
              have z1 : ¬ L < 1 := fun z => c1 (decide_eq_true z)
              have z2 : ¬ dp < 1 := fun z => c2 (decide_eq_true z)
              rw [decide_eq_false z1, decide_eq_false z2]
              rfl
            exact ⟨S1, _, rfl, h1, hx1, k1, fun _ => hp⟩
      · rintro σ H3 ⟨S3, b, rfl, h3, hc3, k3, hp⟩
        have d3 := hD.draw h3 k3
        refine ⟨_, rfl, b, ?_, ?_⟩
        · rfl
        · cases b with
          | true => exact iteT (q H3 S3 L (.at_ .non) ((DrL.cst (o := 1) hD (KpX.kept k3) d3 hc3 .non).le_ (Nat.zero_le _) (by rw [eod]; omega) (Nat.le_refl _)) (by rw [fit_at hc, hs, if_neg (by decide), hq, if_pos rfl]; exact .inl rfl))
          | false =>
            refine iteF ?_
            have hp := hp rfl
            have hf := hf2 hp
            rw [hp] at hcnt q
            have ep : pp false (n' + 1) h = pp false n' (inner h) := by rw [epp]; rfl
            refine ⟨_, rfl, _, rfl, _, rfl, _, rfl, h, rfl, hz, _, rfl, _, rfl, a, c, lf, S3, L, dp, inner h, n', rfl, d3, hk2, by omega, fun _ => by omega, fun _ => by omega, by rw [hp]; omega, fun H6 S6 L6 m6 B fB => ?_⟩
            rw [hp] at B
            exact q H6 S6 L6 m6 ((DrL.pre0 (o0 := 1) hD (KpX.kept k3) d3 hc3 B).le_ (by omega) (by omega) (by omega)) (by rw [fit_at hc, hs, if_neg (by decide), hq, if_pos rfl]; exact .inr fB)
  rintro σ H3 ⟨rfl, rfl, hq⟩
  rw [hq, if_neg (by decide)] at hk2
  have eod : od (n' + 1) h = 1 := by rw [od_at hc, hs, if_neg (by decide), hq, if_neg (by decide)]
  have fin : ∀ (H' : Hp) (S' : Stm) (v : V), StmAt H' a c S' → S'.cnt ≤ S.cnt + 1 → Kept a c H3 H' → Cst Cs H' v → Q v H' := fun H' S' v h' hc' k' hv => by
    have d' := hD.draw h' k'
    exact q H' S' L (.at_ v) ((DrL.cst (o := 1) hD (KpX.kept k') d' hc' (cst_in (KpX.kept k') d'.in_ hv)).le_ (Nat.zero_le _) (by rw [eod]; omega) (Nat.zero_le _)) (by rw [fit_at hc, hs, if_neg (by decide), hq, if_neg (by decide)]; exact .inl ⟨_, rfl⟩)
  have strD : ∀ x y : Str, decide (V.str x = V.str y) = decide (x = y) := fun x y => by
    rw [Bool.eq_iff_iff]
    simp
  have pick : ∀ (H0 : Hp) (l : Addr) (xs : List V), Kept a c H3 H0 → StmAt H0 a c S → H0 l = some (.lst xs) → l ≠ a → l ≠ c → 0 < xs.length → xs.length < 1000 → ∀ (R : VK), (∀ (H' : Hp) (S' : Stm) (x : V), StmAt H' a c S' → S'.cnt ≤ S.cnt + 1 → Kept a c H3 H' → (∀ b o, b ≠ a → b ≠ c → H0 b = some o → H' b = some o) → x ∈ xs → R x H') →
      ∃ E, spPick K [.ref a, .ref l] H0 R E := fun H0 l xs k0 h0 hl n1 n2 p0 p1 R hR => by
    exact ⟨fun _ _ _ => False, a, c, l, S, xs, rfl, h0, c0, hl, n1, n2, p0, by omega, fun H' S' x h' hc' k' hx => hR H' S' x h' hc' (k0.trans k') k' hx⟩
  refine ⟨fun σ H4 => σ = [some (.ref a), some (.str h), some (.ref lf), some (.int dp), none, none, none] ∧ H4 = H3 ∧ h ≠ "N", ?_, ?_⟩
  · refine ⟨_, rfl, rfl, _, rfl, ?_⟩
    rw [strD]
    by_cases hn : h = "N"
    · rw [decide_eq_true hn]
      refine iteT ?_
      refine ⟨_, rfl, by show 8 ≤ sizeLine; decide, fun l nl => ?_⟩
      have s4 := same_new (o := .lst [.str "a", .str "b", .str "x", .str "f", .str "_", .str "match", .str "a1", .str "aB_9"]) nl
      refine ⟨a, c, l, S, _, rfl, hD.st.keep s4, c0, upd_same, (ne_of_none hD.st.lst nl).symm, (ne_of_none hD.st.cel nl).symm, by show 0 < 8; decide, by show 8 < 1000000; decide, fun H' S' x h' hc' k' hx => ?_⟩
      refine fin H' S' x h' hc' ((Kept.same s4).trans k') ?_
      simp only [List.mem_cons, List.not_mem_nil, or_false] at hx
      rcases hx with rfl | rfl | rfl | rfl | rfl | rfl | rfl | rfl <;> exact .str _
    · rw [decide_eq_false hn]
      exact iteF ⟨rfl, rfl, hn⟩
  rintro σ H4 ⟨rfl, rfl, hn⟩
  refine ⟨fun σ H5 => σ = [some (.ref a), some (.str h), some (.ref lf), some (.int dp), none, none, none] ∧ H5 = H4 ∧ h ≠ "B", ?_, ?_⟩
  · refine ⟨_, rfl, rfl, _, rfl, ?_⟩
    rw [strD]
    by_cases hb : h = "B"
    · rw [decide_eq_true hb]
      refine iteT ?_
      exact ⟨_, rfl, a, c, S, 2, rfl, hD.st, c0, by decide, by decide, fun H1 S1 x h1 hx1 k1 x0 x1 => fin H1 S1 _ h1 hx1 k1 (.int x)⟩
    · rw [decide_eq_false hb]
      exact iteF ⟨rfl, rfl, hb⟩
  rintro σ H5 ⟨rfl, rfl, hb⟩
  refine ⟨fun σ H6 => σ = [some (.ref a), some (.str h), some (.ref lf), some (.int dp), none, none, none] ∧ H6 = H5 ∧ gwB h = false, ?_, ?_⟩
  · refine ⟨_, rfl, _, _, rfl, rfl, _, rfl, ?_⟩
    show if gwB h = true then _ else _
    cases hg : gwB h with
    | true =>
      refine iteT ?_
      refine ⟨_, rfl, _, rfl, rfl, _, rfl, ite2 (fun _ => ?_) (fun _ => ?_)⟩
      · refine ⟨by show 3 ≤ sizeLine; decide, fun l nl => ?_⟩
        have s4 := same_new (o := .lst [.non, .bl true, .bl false]) nl
        refine ⟨a, c, l, S, _, rfl, hD.st.keep s4, c0, upd_same, (ne_of_none hD.st.lst nl).symm, (ne_of_none hD.st.cel nl).symm, by show 0 < 3; decide, by show 3 < 1000000; decide, fun H' S' x h' hc' k' hx => ?_⟩
        refine fin H' S' x h' hc' ((Kept.same s4).trans k') ?_
        simp only [List.mem_cons, List.not_mem_nil, or_false] at hx
        rcases hx with rfl | rfl | rfl
        · exact .non
        · exact .bl _
        · exact .bl _
      · refine ⟨_, rfl, by show 4 ≤ sizeLine; decide, fun l nl => ?_⟩
        have s4 := same_new (o := .lst [.int (-1), .int 97, .int 114, .int 115]) nl
        refine ⟨a, c, l, S, _, rfl, hD.st.keep s4, c0, upd_same, (ne_of_none hD.st.lst nl).symm, (ne_of_none hD.st.cel nl).symm, by show 0 < 4; decide, by show 4 < 1000000; decide, fun H' S' x h' hc' k' hx => ?_⟩
        refine fin H' S' x h' hc' ((Kept.same s4).trans k') ?_
        simp only [List.mem_cons, List.not_mem_nil, or_false] at hx
        rcases hx with rfl | rfl | rfl | rfl <;> exact .int _
    | false => exact iteF ⟨rfl, rfl, rfl⟩
  rintro σ H6 ⟨rfl, rfl, hg⟩
  refine ⟨fun σ H7 => σ = [some (.ref a), some (.str h), some (.ref lf), some (.int dp), none, none, none] ∧ H7 = H6 ∧ h ≠ "V", ?_, ?_⟩
  · refine ⟨_, rfl, rfl, _, rfl, ?_⟩
    rw [strD]
    by_cases hv : h = "V"
    · rw [decide_eq_true hv]
      refine iteT ?_
      refine ⟨_, rfl, rfl, fun H1 l ts s1 nl hl1 hlen hts => ?_⟩
      refine ⟨a, c, l, S, _, rfl, hD.st.keep s1, c0, hl1, (ne_of_none hD.st.lst nl).symm, (ne_of_none hD.st.cel nl).symm, by rw [List.length_map, hlen]; decide, by rw [List.length_map, hlen]; decide, fun H' S' x h' hc' k' hx => ?_⟩
      obtain ⟨tu, htu, rfl⟩ := List.mem_map.mp hx
      obtain ⟨v, x, g1, g2⟩ := hts tu htu
      have g3 : H' tu = some (.tup [v, .str x]) := k' _ _ (fun z => by rw [z, (hD.st.keep s1).lst] at g1; cases g1) (fun z => by rw [z, (hD.st.keep s1).cel] at g1; cases g1) g1
      refine ⟨tu, _, _, _, rfl, rfl, SqT.of g3, rfl, ?_⟩
      refine fin H' S' v h' hc' ((Kept.same s1).trans k') ?_
      cases g2 with
      | non => exact .non
      | bl b => exact .bl b
      | int i => exact .int i
      | str y => exact .str y
      | obj hj hp hf => exact (Cst.obj hj hp hf).map fun b o i e => k' _ _ (fun z => by rw [z, (hD.st.keep s1).lst] at e; rw [← Option.some.inj e] at i; cases i) (fun z => by rw [z, (hD.st.keep s1).cel] at e; rw [← Option.some.inj e] at i; cases i) e
    · rw [decide_eq_false hv]
      exact iteF ⟨rfl, rfl, hv⟩
  rintro σ H7 ⟨rfl, rfl, hv⟩
  have hlf : leafB h = false := by
    unfold leafB
    rw [decide_eq_false hn, decide_eq_false hb, hg, decide_eq_false hv]
    rfl
  rw [hlf, Bool.false_or] at hk2
  have epp : ∀ b, pp b (n' + 1) h = pm h := fun b => by rw [pp_at hc, hs, if_neg (by decide), hq, if_neg (by decide), hlf, if_neg (by decide)]
  have enf : nf (n' + 1) h = 1 + fm h := by rw [nf_at hc, hs, if_neg (by decide), hq, if_neg (by decide), hlf, if_neg (by decide)]
  have emk : mks (n' + 1) h = 0 := by rw [mks_at hc, hs, hq, Bool.false_or, if_neg (by decide)]
  have hfm := fm_le hk2
  rw [enf] at hf1
  rw [emk] at hf2
  rw [epp] at hcnt q
  refine ⟨_, rfl, _, rfl, _, rfl, _, rfl, a, c, lf, S, L, dp, h, rfl, hD, hk2, ?_, fun _ => ?_, fun z => ?_, by omega, fun H' S' L' m hmd B _ => q H' S' L' m (B.le_ (Nat.le_refl _) (Nat.zero_le _) (by omega)) (by rw [fit_at hc, hs, if_neg (by decide), hq, if_neg (by decide)]; exact .inr hmd)⟩
  · cases e : pb L dp with
    | true => have := hf1 e; omega
    | false => have := hf2 e; omega
  · cases e : pb L dp with
    | true => have := hf1 e; omega
    | false => have := hf2 e; omega
  · cases e : pb L dp with
    | true =>
      rw [pb_mono (show L - 1 ≤ L by omega) e] at z
      cases z
    | false => have := hf2 e; omega
end
end Q8

namespace Q8
open PySem PySem.Spec PyProof.Rows L2 StX TL
/-! ### a drawn model -/
abbrev sMd : Stmt := topS 39
theorem scMd : FnScope ["_law_stream", "_law_held", "_law_left", "_law_deep", "_law_small", "_law_some", "_law_kind", "_law_parts", "_law_name", "_law_what"] ["_law_stream", "_law_held", "_law_left", "_law_deep"] (defScope sMd) := ⟨rfl, rfl, rfl, by decide +kernel, rfl, by decide +kernel, by decide +kernel⟩
structure MDefs (P : Program) (w : World) (K : PySem.W.Frag) (mg : Str → Option Value) (base : Heap) (fP fS fG fF : Addr) (dP dS dG dF : FuncData) : Prop where
  Pk : FnOk P w K mg base CX0 2 fP dP ["_law_stream", "_law_some"] (spPick K)
  bP : Binds K dP ["_law_stream", "_law_some"] []
  kP : PySem.W.keepIn K (.ref fP) = true
  mP : mg "_law_pick" = some (.ref fP)
  S : FnOk P w K mg base CX0 2 fS dS ["_law_stream"] spSp
  bS : Binds K dS ["_law_stream"] []
  kS : PySem.W.keepIn K (.ref fS) = true
  mS : mg "_law_spot" = some (.ref fS)
  G : FnOk P w K mg base CX0 1 fG dG ["_law_held"] spGr
  bG : Binds K dG ["_law_held"] []
  kG : PySem.W.keepIn K (.ref fG) = true
  mG : mg "_law_group" = some (.ref fG)
  F : FnOk P w K mg base CX0 3 fF dF ["_law_kind"] spFd
  bF : Binds K dF ["_law_kind"] []
  kF : PySem.W.keepIn K (.ref fF) = true
  mF : mg "_law_fields" = some (.ref fF)
/-- the law's small groups at p -/
def SmAt (H : Hp) (p : Addr) : Prop := ∃ l1 l2 l3, H p = some (.dK [(.inr "S", .ref l1), (.inr "E", .ref l2), (.inr "T", .ref l3)]) ∧ H l1 = some (.lst [.str "Pass", .str "Return"]) ∧ H l2 = some (.lst [.str "Name", .str "Constant"]) ∧ H l3 = some (.lst [.str "MatchAs"])
theorem SmAt.up {H H' : Hp} {p : Addr} (h : SmAt H p) (s : Same H H') : SmAt H' p := by
  obtain ⟨l1, l2, l3, h1, h2, h3, h4⟩ := h
  exact ⟨l1, l2, l3, s _ _ h1, s _ _ h2, s _ _ h3, s _ _ h4⟩
theorem strs_nin {H : Hp} {a c lf l : Addr} {S : Stm} {L : Int} {ys : List Str} (h : Ds H a c lf S L) (n : 0 < ys.length) (e : H l = some (.lst (ys.map V.str))) : l ∉ [a, c, lf] := fun z => by
  obtain ⟨y, r, rfl⟩ : ∃ y r, ys = y :: r := by
    cases ys with
    | nil => cases n
    | cons y r => exact ⟨y, r, rfl⟩
  simp only [List.mem_cons, List.not_mem_nil, or_false] at z
  rcases z with rfl | rfl | rfl
  · rw [h.st.lst] at e; cases e
  · rw [h.st.cel] at e
    have e : S.cells.map V.int = (y :: r).map V.str := HO.lst.inj (Option.some.inj e)
    cases hc : S.cells with
    | nil => rw [hc] at e; cases e
    | cons u v => rw [hc] at e; cases (List.cons.inj e).1
  · rw [h.lfa] at e; cases e
theorem SmAt.look {H : Hp} {p : Addr} (h : SmAt H p) (x : Str) : (∃ l G, DGet H p (.str x) (some (.ref l)) ∧ H l = some (.lst (G.map V.str)) ∧ smallT.lookup x = some G) ∨ (DGet H p (.str x) none ∧ smallT.lookup x = none) := by
  obtain ⟨l1, l2, l3, h1, h2, h3, h4⟩ := h
  have g := DGet.k (k := Sum.inr x) h1
  have inr_ne : ∀ {u v : Str}, u ≠ v → ¬ (Sum.inr u : Key) = Sum.inr v := fun n z => n (Sum.inr.inj z)
  unfold smallT
  by_cases e1 : x = "S"
  · subst e1
    exact .inl ⟨l1, ["Pass", "Return"], g, h2, rfl⟩
  by_cases e2 : x = "E"
  · subst e2
    exact .inl ⟨l2, ["Name", "Constant"], g, h3, rfl⟩
  by_cases e3 : x = "T"
  · subst e3
    exact .inl ⟨l3, ["MatchAs"], g, h4, rfl⟩
  refine .inr ⟨?_, ?_⟩
  · rw [valV_neg (inr_ne (Ne.symm e1)), valV_neg (inr_ne (Ne.symm e2)), valV_neg (inr_ne (Ne.symm e3))] at g
    exact g
  · rw [List.lookup_cons, beq_eq_false_iff_ne.mpr e1]
    dsimp only
    rw [List.lookup_cons, beq_eq_false_iff_ne.mpr e2]
    dsimp only
    rw [List.lookup_cons, beq_eq_false_iff_ne.mpr e3]
    rfl
theorem sumW_take {f : Str → Nat} {ps : List (List Str)} {i : Nat} {p : List Str} (h : ps[i]? = some p) : sumW f (ps.take (i + 1)) = sumW f (ps.take i) + f (whatOf p) := by
  unfold sumW
  rw [List.take_succ, h, List.map_append, List.sum_append]
  simp
theorem sumW_le {f : Str → Nat} : ∀ {ps : List (List Str)} {i : Nat}, sumW f (ps.take i) ≤ sumW f ps
  | [], i => by simp
  | p :: r, 0 => by simp [sumW]
  | p :: r, i + 1 => by
    have := sumW_le (f := f) (ps := r) (i := i)
    unfold sumW at this ⊢
    simp only [List.take_succ_cons, List.map_cons, List.sum_cons]
    omega
theorem sumW_mono {f g : Str → Nat} (h : ∀ w, f w ≤ g w) : ∀ {ps : List (List Str)}, sumW f ps ≤ sumW g ps
  | [] => Nat.le_refl _
  | p :: r => by
    have := sumW_mono h (ps := r)
    have := h (whatOf p)
    unfold sumW at *
    simp only [List.map_cons, List.sum_cons]
    omega
theorem kind_at {k : Str} (h : kindOk k = true) : (Fld.lookup k).isSome = true ∧ 1 + sumW (pp false 3) (fieldsP k) ≤ 21 ∧ ∀ p ∈ fieldsP k, ∃ nm w, p = [nm, w] ∧ okW 3 w = true ∧ mks 3 w ≤ 2 ∧ nf 3 w ≤ 10 ∧ od 3 w ≤ 7 := by
  obtain ⟨h1, h⟩ := Bool.and_eq_true_iff.mp h
  obtain ⟨h2, h3⟩ := Bool.and_eq_true_iff.mp h
  refine ⟨h1, of_decide_eq_true h3, fun p hp => ?_⟩
  have z := List.all_eq_true.mp h2 p hp
  unfold fldOk at z
  split at z
  · rename_i nm w
    obtain ⟨z1, z⟩ := Bool.and_eq_true_iff.mp z
    obtain ⟨z2, z⟩ := Bool.and_eq_true_iff.mp z
    obtain ⟨z3, z4⟩ := Bool.and_eq_true_iff.mp z
    exact ⟨nm, w, rfl, z1, of_decide_eq_true z2, of_decide_eq_true z3, of_decide_eq_true z4⟩
  · cases z
theorem group_at {h : Str} (g : groupOk h = true) : (grpTx h).length ≤ 1000 ∧ (0 < (groupP h).length ∧ (groupP h).length ≤ 100 ∧ ∀ k ∈ groupP h, kindOk k = true) ∧ 0 < (poorG h).length ∧ (poorG h).length ≤ 100 ∧ ∀ k ∈ poorG h, kindOk k = true ∧ poorOk h k = true := by
  obtain ⟨g1, g⟩ := Bool.and_eq_true_iff.mp g
  obtain ⟨g2, g⟩ := Bool.and_eq_true_iff.mp g
  obtain ⟨g3, g⟩ := Bool.and_eq_true_iff.mp g
  obtain ⟨g4, g⟩ := Bool.and_eq_true_iff.mp g
  obtain ⟨g5, g⟩ := Bool.and_eq_true_iff.mp g
  obtain ⟨g6, g⟩ := Bool.and_eq_true_iff.mp g
  obtain ⟨g7, g8⟩ := Bool.and_eq_true_iff.mp g
  exact ⟨of_decide_eq_true g1, ⟨of_decide_eq_true g2, of_decide_eq_true g3, fun k hk => List.all_eq_true.mp g4 k hk⟩, of_decide_eq_true g5, of_decide_eq_true g6, fun k hk => ⟨List.all_eq_true.mp g7 k hk, List.all_eq_true.mp g8 k hk⟩⟩
section
variable {P : Program} {w : World} {K : PySem.W.Frag} {mg : Str → Option Value} {base : Heap} {Cs : Nat → Addr} {fP fS fG fF : Addr} {dP dS dG dF : FuncData}
theorem ok_md {f fR : Addr} {fd dR : FuncData} (F : Fun K "_law_model" "_law_model" sMd f fd) (Z : Blt mg) (Y : MDefs P w K mg base fP fS fG fF dP dS dG dF) {n k : Nat} (hk : 3 ≤ k)
    (PT : FnOk P w K mg base CX0 k fR dR pPr (spPr Cs n)) (bP : Binds K dR pPr []) (kP : PySem.W.keepIn K (.ref fR) = true) (mP : mg "_law_part" = some (.ref fR)) : FnOk P w K mg base CX0 (k + 1) f fd pPr (spMd Cs (n + 1)) := by
  refine F.ok scMd (fun vs H Q E h => ?_) (fun cdv A outer s H vs Q E hr h => ?_)
  · obtain ⟨a, c, lf, S, L, dp, h, rfl, _⟩ := h
    rfl
  obtain ⟨a, c, lf, S, L, dp, h, rfl, hD, hm, _, hf1, hf2, hcnt, q⟩ := h
  have hr1 := hr.mono (show 1 ≤ k by omega)
  have hr2 := hr.mono (show 2 ≤ k by omega)
  have hr3 := hr.mono hk
  obtain ⟨hf8, hfp, hp1, hp6, hgr⟩ := fm_le hm
  refine ⟨_, (C8.pss_cut (ps_asg (pe_op op_sub (pe_ix ix_list (pv 2) pe_int (fun _ _ => rfl)) pe_int) (pg_sub (pv 2) pe_int set_list))
    (C8.pss_cut (ps_set (i := 4) scMd.nd rfl (.inl rfl) (pe_disp (pps_cons pe_str (pe_lst (pa_cons pe_str (pa_cons pe_str pa_nil))) (pps_cons pe_str (pe_lst (pa_cons pe_str (pa_cons pe_str pa_nil))) (pps_cons pe_str (pe_lst (pa_cons pe_str pa_nil)) pps_nil))) (by rfl) (by rfl) (fun z => by cases z) (by decide)))
    (C8.pss_cut (ps_set (i := 5) scMd.nd rfl (.inl rfl) (pe_call Y.G hr1 rfl Y.mG Y.kG Y.bG .nil pass0 (pa_cons (pv 1) pa_nil)))
    (C8.pss_cut (ps_if (PW.pt (pw_and (PW.pt (pw_or (pt_cmpR op_lt (pe_ix ix_list (pv 2) pe_int (fun _ _ => rfl)) pe_int (nomark _)) (pw_or1 (pt_cmpR op_lt (pv 3) pe_int (nomark _))))) (pw_and1 (pt_cmp (pc_din (hu_of hr) (pv 1) (pv 4)))))) (pss_one (ps_set (i := 5) scMd.nd rfl (.inl rfl) (pe_dget (hu_of hr) (pv 4) (pv 1) (fun _ _ => rfl)))) pss_nil)
    (C8.pss_cut (ps_set (i := 6) scMd.nd rfl (.inl rfl) (pe_call Y.Pk hr2 rfl Y.mP Y.kP Y.bP .nil pass0 (pa_cons (pv 0) (pa_cons (pv 5) pa_nil))))
    (C8.pss_cut (ps_setLc (i := 7) (own := [("_law_name", 8), ("_law_what", 9)]) (g := gTup K 2 (gCons (gName 8) (gCons (gName 9) (gNil)))) (tt := tYes) rfl scMd.nd rfl rfl (sw_true rfl rfl rfl (by decide +kernel)) (pi_list (pe_call Y.F hr3 rfl Y.mF Y.kF Y.bF .nil pass0 (pa_cons (pv 6) pa_nil))) (blkOk_by (own := [("_law_name", 8), ("_law_what", 9)]) (N := ["_law_stream", "_law_held", "_law_left", "_law_deep", "_law_small", "_law_some", "_law_kind", "_law_parts", "_law_name", "_law_what"]) (sc := (defScope sMd)) (by decide +kernel)) (fun _ _ _ _ _ => (pg_tup (by rfl) (pgs_cons (pg_name (i := 8) scMd.nd rfl (.inl rfl)) (pgs_cons (pg_name (i := 9) scMd.nd rfl (.inl rfl)) pgs_nil)))) (fun _ _ _ _ _ => pts_nil) (fun _ _ _ _ _ => (pe_call PT hr rfl mP kP bP .nil pass0 (pa_cons (pv 0) (pa_cons (pv 9) (pa_cons (pv 2) (pa_cons (pe_op op_sub (pv 3) pe_int) pa_nil)))))))
    (pss_one (ps_ret (pe_disp (pps_cons pe_str (pv 6) (pps_cons pe_str (pv 7) (pps_cons pe_str (pe_call Y.S hr2 rfl Y.mS Y.kS Y.bS .nil pass0 (pa_cons (pv 0) pa_nil)) pps_nil))) (by rfl) (by rfl) (fun z => by cases z) (by decide)))))))))), ?_⟩
  obtain ⟨gl, ⟨gg1, gg2, gg3⟩, gp1, gp2, gp3⟩ := group_at hgr
  refine ⟨fun σ H1 => σ = [some (.ref a), some (.str h), some (.ref lf), some (.int dp), none, none, none, none, none, none] ∧ Ds H1 a c lf S (L - 1) ∧ KpX [a, c, lf] H H1, ?_, ?_⟩
  · refine ⟨_, rfl, lf, _, _, _, rfl, rfl, SqL.of hD.lfa, rfl, _, _, rfl, rfl, _, rfl, lf, _, 0, 0, rfl, rfl, hD.lfa, rfl, rfl, ?_, ?_⟩
    · have hna := hD.na
      have hnc := hD.nc
      exact ⟨⟨by rw [upd_ne (Ne.symm hna)]; exact hD.st.lst, by rw [upd_ne (Ne.symm hnc)]; exact hD.st.cel, hD.st.ne, hD.st.len, hD.st.cur0, hD.st.cnt0, hD.st.mix0, hD.st.mix1⟩, upd_same, hna, hnc⟩
    · intro b o nb e
      rw [upd_ne fun z => nb (by rw [z]; simp)]
      exact e
  rintro σ H1 ⟨rfl, d1, k1⟩
  refine ⟨fun σ H2 => ∃ p, σ = [some (.ref a), some (.str h), some (.ref lf), some (.int dp), some (.ref p), none, none, none, none, none] ∧ Ds H2 a c lf S (L - 1) ∧ KpX [a, c, lf] H H2 ∧ SmAt H2 p, ?_, ?_⟩
  · refine fun p np => ⟨by show 2 ≤ sizeLine; decide, fun l1 n1 => ⟨by show 2 ≤ sizeLine; decide, fun l2 n2 => ⟨by show 1 ≤ sizeLine; decide, fun l3 n3 => ?_⟩⟩⟩
    have e0 : (upd H1 p (.dK [])) p = some (.dK []) := upd_same
    have p1 : p ≠ l1 := ne_of_none e0 n1
    have s1 := same_new (o := .lst [.str "Pass", .str "Return"]) n1
    have p2 : p ≠ l2 := ne_of_none (s1 _ _ e0) n2
    have s2 := same_new (o := .lst [.str "Name", .str "Constant"]) n2
    have p3 : p ≠ l3 := ne_of_none (s2 _ _ (s1 _ _ e0)) n3
    have s3 := same_new (o := .lst [.str "MatchAs"]) n3
    have s0 := same_new (o := .dK []) np
    refine ⟨s3 _ _ (s2 _ _ (s1 _ _ e0)), [(.inr "S", .ref l1), (.inr "E", .ref l2), (.inr "T", .ref l3)], rfl, by show 3 ≤ 15; decide, p, rfl, ?_⟩
    have e1 := s3 _ _ (s2 _ _ (upd_same (H := upd H1 p (.dK [])) (a := l1) (o := .lst [.str "Pass", .str "Return"])))
    have e2 := s3 _ _ (upd_same (H := upd (upd H1 p (.dK [])) l1 (.lst [.str "Pass", .str "Return"])) (a := l2) (o := .lst [.str "Name", .str "Constant"]))
    have e3 := upd_same (H := upd (upd (upd H1 p (.dK [])) l1 (.lst [.str "Pass", .str "Return"])) l2 (.lst [.str "Name", .str "Constant"])) (a := l3) (o := .lst [.str "MatchAs"])
    have s := (s0.trans s1).trans (s2.trans s3)
    generalize upd (upd (upd (upd H1 p (.dK [])) l1 (.lst [.str "Pass", .str "Return"])) l2 (.lst [.str "Name", .str "Constant"])) l3 (.lst [.str "MatchAs"]) = H2 at e1 e2 e3 s ⊢
    have sp : Same H1 (upd H2 p (.dK (mergeK [] [(.inr "S", .ref l1), (.inr "E", .ref l2), (.inr "T", .ref l3)]))) := fun b o e => by
      rw [upd_ne (ne_of_none e np)]
      exact s _ _ e
    exact ⟨d1.keep sp, k1.trans (KpX.same sp), l1, l2, l3, upd_same, by rw [upd_ne p1.symm]; exact e1, by rw [upd_ne p2.symm]; exact e2, by rw [upd_ne p3.symm]; exact e3⟩
  rintro σ H2 ⟨p, rfl, d2, k2, sm2⟩
  refine ⟨fun σ H3 => ∃ l, σ = [some (.ref a), some (.str h), some (.ref lf), some (.int dp), some (.ref p), some (.ref l), none, none, none, none] ∧ Ds H3 a c lf S (L - 1) ∧ KpX [a, c, lf] H H3 ∧ SmAt H3 p ∧ H3 l = some (.lst ((groupP h).map V.str)), ?_, ?_⟩
  · exact ⟨_, rfl, h, rfl, gl, fun H3 l s3 nl hl => ⟨l, rfl, d2.keep s3, k2.trans (KpX.same s3), sm2.up s3, hl⟩⟩
  rintro σ H3 ⟨l, rfl, d3, k3, sm3, hl3⟩
  refine ⟨fun σ H4 => ∃ l G, σ = [some (.ref a), some (.str h), some (.ref lf), some (.int dp), some (.ref p), some (.ref l), none, none, none, none] ∧ H4 = H3 ∧ H4 l = some (.lst (G.map V.str)) ∧ (G = groupP h ∨ G = poorG h) ∧ (pb (L - 1) dp = true → G = poorG h), ?_, ?_⟩
  · have no : pb (L - 1) dp = false → ∃ l' G, [some (V.ref a), some (.str h), some (.ref lf), some (.int dp), some (.ref p), some (.ref l), none, none, none, none] = [some (V.ref a), some (.str h), some (.ref lf), some (.int dp), some (.ref p), some (.ref l'), none, none, none, none] ∧ H3 = H3 ∧ H3 l' = some (.lst (G.map V.str)) ∧ (G = groupP h ∨ G = poorG h) ∧ (pb (L - 1) dp = true → G = poorG h) :=
      fun z => ⟨l, _, rfl, rfl, hl3, .inl rfl, fun y => by rw [z] at y; cases y⟩
    rcases sm3.look h with ⟨l', G, g1, g2, g3⟩ | ⟨g1, g3⟩
    · have g3 : G = poorG h := by unfold poorG; rw [g3]; rfl
      refine ⟨_, rfl, lf, _, _, _, rfl, rfl, SqL.of d3.lfa, rfl, _, _, rfl, rfl, _, rfl, ?_⟩
      refine ite2 (fun c1 => ?_) (fun c1 => ?_)
      · exact iteT ⟨_, rfl, _, rfl, p, _, rfl, g1, _, rfl, iteT ⟨_, rfl, _, rfl, p, .ref l', rfl, g1, l', G, rfl, rfl, g2, .inr g3, fun _ => g3⟩⟩
      · refine ⟨_, rfl, _, _, rfl, rfl, _, rfl, ite2 (fun c2 => ?_) (fun c2 => ?_)⟩
        · exact ⟨_, rfl, _, rfl, p, _, rfl, g1, _, rfl, iteT ⟨_, rfl, _, rfl, p, .ref l', rfl, g1, l', G, rfl, rfl, g2, .inr g3, fun _ => g3⟩⟩
        · refine no ?_
          unfold pb
          rw [decide_eq_false (fun z => c1 (decide_eq_true z)), decide_eq_false (fun z => c2 (decide_eq_true z))]
          rfl
    · have g3 : poorG h = groupP h := by unfold poorG; rw [g3]; rfl
      refine ⟨_, rfl, lf, _, _, _, rfl, rfl, SqL.of d3.lfa, rfl, _, _, rfl, rfl, _, rfl, ?_⟩
      refine ite2 (fun c1 => ?_) (fun c1 => ?_)
      · exact iteT ⟨_, rfl, _, rfl, p, _, rfl, g1, _, rfl, iteF ⟨l, groupP h, rfl, rfl, hl3, .inl rfl, fun _ => g3.symm⟩⟩
      · refine ⟨_, rfl, _, _, rfl, rfl, _, rfl, ite2 (fun c2 => ?_) (fun c2 => ?_)⟩
        · exact ⟨_, rfl, _, rfl, p, _, rfl, g1, _, rfl, iteF ⟨l, groupP h, rfl, rfl, hl3, .inl rfl, fun _ => g3.symm⟩⟩
        · refine no ?_
          unfold pb
          rw [decide_eq_false (fun z => c1 (decide_eq_true z)), decide_eq_false (fun z => c2 (decide_eq_true z))]
          rfl
  rintro σ H4 ⟨l, G, rfl, rfl, hl4, hG1, hG2⟩
  have G0 : 0 < G.length := by rcases hG1 with e | e <;> rw [e] <;> assumption
  have G1 : G.length ≤ 100 := by rcases hG1 with e | e <;> rw [e] <;> assumption
  have ln := strs_nin d3 G0 hl4
  simp only [List.mem_cons, List.not_mem_nil, or_false, not_or] at ln
  refine ⟨fun σ H5 => ∃ kd S5, σ = [some (.ref a), some (.str h), some (.ref lf), some (.int dp), some (.ref p), some (.ref l), some (.str kd), none, none, none] ∧ Ds H5 a c lf S5 (L - 1) ∧ S5.cnt ≤ S.cnt + 1 ∧ KpX [a, c, lf] H H5 ∧ kindOk kd = true ∧ (pb (L - 1) dp = true → poorOk h kd = true), ?_, ?_⟩
  · refine ⟨_, rfl, _, rfl, a, c, l, S, _, rfl, d3.st, by omega, hl4, ln.1, ln.2.1, by rw [List.length_map]; exact G0, by rw [List.length_map]; omega, fun H5 S5 x h5 c5 k5 hx => ?_⟩
    obtain ⟨kd, hkd, rfl⟩ := List.mem_map.mp hx
    refine ⟨kd, S5, rfl, d3.draw h5 k5, c5, k3.trans (KpX.kept k5), ?_, fun z => ?_⟩
    · rcases hG1 with e | e
      · exact gg3 kd (by rw [← e]; exact hkd)
      · exact (gp3 kd (by rw [← e]; exact hkd)).1
    · exact (gp3 kd (by rw [← hG2 z]; exact hkd)).2
  rintro σ H5 ⟨kd, S5, rfl, d5, c5, k5, kok, pok⟩
  obtain ⟨kr, ks, kf⟩ := kind_at kok
  have okr : okRow kd = true := by
    obtain ⟨rs, hrs⟩ := Option.isSome_iff_exists.mp kr
    exact (fields_row hrs).1
  have fl7 := fields_len kr
  obtain ⟨bb, ebb⟩ : ∃ bb, bb = pb (L - 1) (dp - 1) := ⟨_, rfl⟩
  have bbp : pb (L - 1) dp = true → bb = true := fun z => by
    rw [ebb]
    unfold pb at z ⊢
    rcases Bool.or_eq_true_iff.mp z with z | z
    · rw [z]; rfl
    · have := of_decide_eq_true z
      rw [decide_eq_true (show dp - 1 < 1 by omega), Bool.or_true]
  have pok2 : pb (L - 1) dp = true → 1 + sumW (pp true 3) (fieldsP kd) ≤ pm h ∧ ∀ p ∈ fieldsP kd, nf 3 (whatOf p) + 1 ≤ fm h := fun z => by
    obtain ⟨z1, z2⟩ := Bool.and_eq_true_iff.mp (pok z)
    exact ⟨of_decide_eq_true z1, fun p hp => of_decide_eq_true (List.all_eq_true.mp z2 p hp)⟩
  have rich : pb (L - 1) dp = false → 1 ≤ L - 1 ∧ 1 ≤ dp := fun z => by
    unfold pb at z
    obtain ⟨z1, z2⟩ := Bool.or_eq_false_iff.mp z
    have := of_decide_eq_false z1
    have := of_decide_eq_false z2
    omega
  have sumB : sumW (pp bb 3) (fieldsP kd) ≤ sumW (pp false 3) (fieldsP kd) := by
    cases bb with
    | false => exact Nat.le_refl _
    | true => exact sumW_mono (pp_le 3)
  -- what is spent on the parts
  have spent : 1200 * ((L - 1).toNat : Int) + 60 * (sumW (pp bb 3) (fieldsP kd) : Nat) + 60 ≤ 1200 * (L.toNat : Int) + 60 * (pm h : Nat) ∧ 20 * (L - 1).toNat + sumW (pp bb 3) (fieldsP kd) + 1 ≤ 20 * L.toNat + pm h := by
    cases e : pb (L - 1) dp with
    | true =>
      have z := (pok2 e).1
      rw [← bbp e] at z
      omega
    | false =>
      have z := rich e
      omega
  refine ⟨fun σ H6 => ∃ (D : Addr) (S6 : Stm) (L6 : Int) (ms : List MT), σ = [some (.ref a), some (.str h), some (.ref lf), some (.int dp), some (.ref p), some (.ref l), some (.str kd), some (.ref D), none, none] ∧ DrL Cs n [a, c, lf] a c lf H5 S5 (L - 1) H6 S6 L6 ms (sumW (pp bb 3) (fieldsP kd)) 49 ∧ H6 D = some (.lst (ms.map MT.val)) ∧ H5 D = none ∧ MAtL Cs (fun _ => none) (res (fun b => was H5 b ∨ b = D) H6) ms ∧ ms.length = (fieldsP kd).length ∧ FitsL kd ms, ?_, ?_⟩
  · refine ⟨_, rfl, kd, rfl, okr, fun H6 q6 s6 fa => ?_⟩
    obtain ⟨nq6, as, hq6, las, hat⟩ := fa
    refine ⟨q6, rfl, ⟨_, SqL.of hq6⟩, fun D nD => ?_⟩
    have d6 := d5.keep s6
    have q6x : q6 ∉ [a, c, lf] := d5.ne nq6
    have d7 := d6.keep (same_new (o := .lst []) nD)
    have hD7 : (upd H6 D (.lst [])) D = some (.lst []) := upd_same
    have s67 := same_new (o := .lst []) nD
    have qD : q6 ≠ D := ne_of_none hq6 nD
    have hq7 := s67 _ _ hq6
    have kk : KpX [a, c, lf] H5 (upd H6 D (.lst [])) := (KpX.same s6).trans (KpX.same s67)
    have nD5 : H5 D = none := s6.free nD
    have nDx : D ∉ [a, c, lf] := d6.ne nD
    obtain ⟨H7, eH7⟩ : ∃ X : Hp, X = upd H6 D (.lst []) := ⟨_, rfl⟩
    rw [← eH7] at d7 hD7 kk hq7 s67
    have hx : ∀ b ∈ [a, c, lf, D], was H7 b := fun b hb => by
      by_cases z : b = D
      · rw [z]; exact was_of hD7
      · refine d7.in_ b ?_
        simp only [List.mem_cons, List.not_mem_nil, or_false] at hb ⊢
        rcases hb with hb | hb | hb | hb
        · exact .inl hb
        · exact .inr (.inl hb)
        · exact .inr (.inr hb)
        · exact absurd hb z
    have q6y : q6 ∉ [a, c, lf, D] := fun z => by
      simp only [List.mem_cons, List.not_mem_nil, or_false] at z q6x
      rcases z with z | z | z | z
      · exact q6x (.inl z)
      · exact q6x (.inr (.inl z))
      · exact q6x (.inr (.inr z))
      · exact qD z
    refine lc_list (K := K) (a := q6) (xs := as.map V.ref) (fun i H8 => ∃ (S8 : Stm) (L8 : Int) (ms : List MT), DrL Cs n [a, c, lf, D] a c lf H7 S5 (L - 1) H8 S8 L8 ms (sumW (pp bb 3) ((fieldsP kd).take i)) (7 * i) ∧ H8 D = some (.lst (ms.map MT.val)) ∧ ms.length = i ∧ FitsL kd ms) ?_ (fun i H8 _ ⟨_, _, _, A, _, _⟩ => SqL.of (A.kp _ _ q6y hq7)) ?_ ?_
    · rw [← eH7]
      exact ⟨S5, L - 1, [], .start d7, hD7, rfl, fun i p fp e => (by simp at e)⟩
    · rintro i x H8 hx8 ⟨S8, L8, ms, A, hL, hlen, hfit⟩
      rw [List.getElem?_map] at hx8
      obtain ⟨b, hb, rfl⟩ := Option.map_eq_some_iff.mp hx8
      have hi : i < (fieldsP kd).length := by
        rcases Nat.lt_or_ge i as.length with z | z
        · omega
        · rw [List.getElem?_eq_none z] at hb; cases hb
      obtain ⟨pr, hpr⟩ : ∃ pr, (fieldsP kd)[i]? = some pr := ⟨_, List.getElem?_eq_getElem hi⟩
      obtain ⟨nb, hb6⟩ := hat i b pr hb hpr
      obtain ⟨nm, wh, rfl, w1, w2, w3, w4⟩ := kf pr (List.mem_of_getElem? hpr)
      have hb7 := s67 _ _ hb6
      have bx : b ∉ [a, c, lf, D] := fun z => by
        obtain ⟨o, e, nI⟩ := hx b z
        simp only [List.mem_cons, List.not_mem_nil, or_false] at z
        rcases z with rfl | rfl | rfl | rfl
        · rw [d7.st.lst] at hb7; cases hb7
        · rw [d7.st.cel] at hb7; cases hb7
        · rw [d7.lfa] at hb7; cases hb7
        · rw [hD7] at hb7; cases hb7
      refine ⟨b, [.str nm, .str wh], rfl, SqT.of (A.kp _ _ bx hb7), rfl, _, _, rfl, _, _, rfl, rfl, rfl, ?_⟩
      unfold tYes
      refine iteT ?_
      have hst := sumW_take (f := pp bb 3) hpr
      have hsl := sumW_le (f := pp bb 3) (ps := fieldsP kd) (i := i + 1)
      have hww : whatOf [nm, wh] = wh := rfl
      rw [hww] at hst
      have hdr := A.dr
      have hle := A.le
      have hpm := pp_mono (t := 3) (h := wh) (dp := dp - 1) A.le
      rw [← ebb] at hpm
      have nfw : pb (L - 1) dp = true → nf 3 wh + 1 ≤ fm h := fun z => (pok2 z).2 _ (List.mem_of_getElem? hpr)
      have np := nf_pos w1
      refine ⟨_, rfl, _, rfl, _, rfl, _, rfl, _, _, rfl, rfl, ?_⟩
      refine ⟨a, c, lf, S8, L8, dp - 1, wh, 3, rfl, A.ds, w1, ?_, fun z => ?_, fun z => ?_, by omega, fun H9 S9 L9 m9 B fB => ?_⟩
      · cases e : pb (L - 1) dp with
        | true => have := nfw e; have := hf1 e; omega
        | false => have := hf2 e; omega
      · cases e : pb (L - 1) dp with
        | true => have := nfw e; have := hf1 e; omega
        | false => have := hf2 e; have := rich e; omega
      · have z2 : 1 ≤ L8 ∧ 1 ≤ dp - 1 := by
          unfold pb at z
          obtain ⟨z1, z2⟩ := Bool.or_eq_false_iff.mp z
          have := of_decide_eq_false z1
          have := of_decide_eq_false z2
          omega
        have e : pb (L - 1) dp = false := by
          unfold pb
          rw [decide_eq_false (by omega), decide_eq_false (by omega)]
          rfl
        have := hf2 e
        omega
      · have hD9 := B.kp D _ nDx hL
        refine ⟨ms.map MT.val, hD9, ?_, S9, L9, ms ++ [m9], ?_, ?_, ?_, ?_⟩
        · have zS : (1000 : Nat) ≤ sizeLine := by decide
          rw [List.length_map]
          omega
        · have z := A.step (u := .lst (ms.map MT.val ++ [m9.val])) hx (was_of hL) nDx B
          exact z.le_ (by omega) (by omega) (Nat.le_refl _)
        · rw [upd_same, List.map_append]
          rfl
        · rw [List.length_append, hlen]
          rfl
        · intro j p' fp e1 e2
          by_cases z : j < ms.length
          · rw [List.getElem?_append_left z] at e1
            exact hfit j p' fp e1 e2
          · have en : j = ms.length := by
              have y := (List.getElem?_eq_some_iff.mp e1).1
              rw [List.length_append, List.length_singleton] at y
              omega
            subst en
            rw [List.getElem?_append_right (Nat.le_refl _), Nat.sub_self] at e1
            rw [hlen, hpr] at e2
            cases e1
            cases e2
            exact ⟨nm, wh, rfl, fB⟩
    · rintro H8 ⟨S8, L8, ms, A, hL, hlen, hfit⟩
      rw [List.length_map, las] at A hlen
      rw [List.take_length] at A
      exact ⟨D, S8, L8, ms, rfl, (DrL.pre (o0 := 0) d5 kk d7 (by omega) nD5 A).le_ (Nat.le_refl _) (by omega) (Nat.le_refl _), hL, nD5, A.at_.up (res_up fun b o n e => ⟨fun z => n (z.elim (fun z => was_up kk d7.in_ z) fun z => by rw [z]; exact was_of hD7), e⟩), hlen, hfit⟩
  rintro σ H6 ⟨D, S6, L6, ms, rfl, A, hL, nD5, sepD, hlen, hfit⟩
  have hdr := A.dr
  have hct := A.ct
  refine fun w np6 => ⟨_, rfl, _, rfl, _, rfl, ?_⟩
  have d7 := A.ds.keep (same_new (o := .dK []) np6)
  have s7 := same_new (o := .dK []) np6
  have e7 : (upd H6 w (.dK [])) w = some (.dK []) := upd_same
  generalize upd H6 w (.dK []) = H7 at d7 s7 e7 ⊢
  refine ⟨a, c, S6, rfl, d7.st, by omega, fun H8 S8 sp xs h8 c8 k8 nsp hsp xl xn => ?_⟩
  have wx : w ∉ [a, c, lf] := A.ds.ne np6
  have wx2 := wx
  simp only [List.mem_cons, List.not_mem_nil, or_false, not_or] at wx2
  have e8 := k8 _ _ wx2.1 wx2.2.1 e7
  refine ⟨e8, [(.inr "kind", .str kd), (.inr "parts", .ref D), (.inr "spot", .ref sp)], rfl, by show 3 ≤ 15; decide, ?_⟩
  have em : mergeK [] [((.inr "kind" : Key), V.str kd), (.inr "parts", .ref D), (.inr "spot", .ref sp)] = mdKv kd D sp none := rfl
  rw [em]
  have d8 := d7.draw h8 k8
  have Dw : D ≠ w := ne_of_none hL np6
  have Dx : D ∉ [a, c, lf] := d5.ne nD5
  have Dx2 := Dx
  simp only [List.mem_cons, List.not_mem_nil, or_false, not_or] at Dx2
  have spw : sp ≠ w := fun z => by rw [z, e7] at nsp; cases nsp
  have nsp6 : H6 sp = none := s7.free nsp
  -- what stood before the dict
  have k69 : KpX [a, c, lf] H6 (upd H8 w (.dK (mdKv kd D sp none))) := fun b o nb e => by
    rw [upd_ne (ne_of_none e np6)]
    exact KpX.kept k8 b o nb (s7 _ _ e)
  have k59 := A.kp.trans k69
  have k09 := k5.trans k59
  have up5 : ∀ b, was H b → was H5 b := fun b z => was_up k5 d5.in_ z
  have up6 : ∀ b, was H b → was H6 b := fun b z => was_up A.kp A.ds.in_ (up5 b z)
  have sR : Same (res (was H5) H6) (res (was H) (upd H8 w (.dK (mdKv kd D sp none)))) := res_up fun b o n e => ⟨fun z => n (up5 b z), k69 b o (fun z => n (d5.in_ b z)) e⟩
  have rw_ : res (was H) (upd H8 w (.dK (mdKv kd D sp none))) w = some (.dK (mdKv kd D sp none)) := res_in (fun z => not_was np6 (up6 w z)) upd_same
  have rD : res (was H) (upd H8 w (.dK (mdKv kd D sp none))) D = some (.lst (ms.map MT.val)) := res_in (fun z => not_was nD5 (up5 D z)) (k69 D _ Dx hL)
  have rsp : res (was H) (upd H8 w (.dK (mdKv kd D sp none))) sp = some (.lst xs) := res_in (fun z => not_was nsp6 (up6 sp z)) (by rw [upd_ne spw]; exact hsp)
  have e1 : mdsL [MT.md w D sp kd ms] = w :: mdsL ms := by rw [mdsL_cons, mdsL_nil, mds_md, List.append_nil]
  refine q _ S8 L6 (.md w D sp kd ms) rfl ⟨⟨⟨by rw [upd_ne (Ne.symm wx2.1)]; exact h8.lst, by rw [upd_ne (Ne.symm wx2.2.1)]; exact h8.cel, h8.ne, h8.len, h8.cur0, h8.cnt0, h8.mix0, h8.mix1⟩, by rw [upd_ne (Ne.symm wx2.2.2)]; exact d8.lfa, d8.na, d8.nc⟩, k09, .cons (.md rw_ rD rsp xl xn kr hlen (A.at_.up sR)) .nil, ?_, ?_, ?_, ?_, ?_, fun x hx => (by rw [List.mem_singleton.mp hx]; exact .md A.cf hfit)⟩ fun d' pl' sp' k' ps' e => ?_
  · rw [e1, List.nodup_cons]
    refine ⟨fun z => ?_, A.nd⟩
    obtain ⟨kvs, g⟩ := A.at_.has w z
    have := (res_at g).2
    rw [np6] at this
    cases this
  · rw [hgtL_cons, hgtL_nil, hgt_md]
    have := A.ht
    omega
  · have := A.le
    omega
  · rw [e1, List.length_cons]
    omega
  · omega
  · cases e
    exact ⟨sepD.up (res_up fun b o n e => ⟨fun z => n (z.imp (up5 b) id), k69 b o (fun z => n (.inl (d5.in_ b z))) e⟩), fun z => by rw [z, hL] at nsp6; cases nsp6⟩
end
end Q8

namespace Q8
open PySem PySem.Spec PyProof.Rows L2 StX TL
/-! ### parts and models of any height -/
theorem ok_draws {P : Program} {w : World} {K : PySem.W.Frag} {mg : Str → Option Value} {base : Heap} {Cs : Nat → Addr} {fD fP fN fS fG fF fA fM : Addr} {dD dP dN dS dG dF dA dM : FuncData}
    (FA : Fun K "_law_part" "_law_part" sPr fA dA) (bA : Binds K dA pPr []) (mA : mg "_law_part" = some (.ref fA)) (FM : Fun K "_law_model" "_law_model" sMd fM dM) (bM : Binds K dM pPr []) (mM : mg "_law_model" = some (.ref fM)) (Z : Blt mg)
    (Y : DDefs P w K mg base Cs fD fP fN dD dP dN) (W : MDefs P w K mg base fP fS fG fF dP dS dG dF) : ∀ n : Nat, FnOk P w K mg base CX0 (3 + n) fA dA pPr (spPr Cs n) ∧ FnOk P w K mg base CX0 (3 + n) fM dM pPr (spMd Cs n)
  | 0 => ⟨no_pr, no_md⟩
  | n + 1 => by
    obtain ⟨h1, h2⟩ := ok_draws FA bA mA FM bM mM Z Y W n
    exact ⟨ok_pr FA bA mA Z Y (Nat.le_add_right 3 n) h1 h2 bM FM.kp mM, ok_md FM Z W (Nat.le_add_right 3 n) h1 bA FA.kp mA⟩
/-- a whole model: at most 29 of them, at most 6 deep -/
def spWhole (Cs : Nat → Addr) : Sp := fun vs H Q _ => ∃ (a c lf : Addr) (S : Stm) (L dp : Int) (h : Str), vs = [.ref a, .str h, .ref lf, .int dp] ∧ Ds H a c lf S L ∧ (HMT.lookup h).isSome = true ∧ 2 ≤ L ∧ L ≤ 30 ∧ 1 ≤ dp ∧ dp ≤ 6 ∧ S.cnt ≤ 700000 ∧
  ∀ (H' : Hp) (S' : Stm) (m : MT), isMd m = true → StmAt H' a c S' → KpX [a, c, lf] H H' → MAt Cs (fun _ => none) (res (was H) H') m → m.mds.Nodup → m.mds.length ≤ 606 → m.hgt ≤ 32 → S'.cnt ≤ S.cnt + 36360 → (∀ d pl sp k ps, m = .md d pl sp k ps → MAtL Cs (fun _ => none) (res (fun b => was H b ∨ b = pl) H') ps ∧ sp ≠ pl) → CfM m → Q m.val H'
theorem ok_whole {P : Program} {w : World} {K : PySem.W.Frag} {mg : Str → Option Value} {base : Heap} {Cs : Nat → Addr} {f : Addr} {fd : FuncData} (M : FnOk P w K mg base CX0 35 f fd pPr (spMd Cs 32)) : FnOk P w K mg base CX0 35 f fd pPr (spWhole Cs) := by
  refine M.imp fun vs H Q E h => ?_
  obtain ⟨a, c, lf, S, L, dp, h, rfl, hD, hm, l1, l2, d1, d2, hc, q⟩ := h
  obtain ⟨h8, h1, hp1, hp6, _⟩ := fm_le hm
  refine ⟨a, c, lf, S, L, dp, h, rfl, hD, hm, by decide, fun _ => by omega, fun _ => by omega, by omega, fun H' S' L' m hmd A sep => ?_⟩
  have ct := A.ct
  have dr := A.dr
  have ht := A.ht
  have nd := A.nd
  have at_ : MAt Cs (fun _ => none) (res (was H) H') m := by
    have z := A.at_
    cases z with
    | cons h _ => exact h
  rw [mdsL_cons, mdsL_nil, List.append_nil] at ct nd
  rw [hgtL_cons, hgtL_nil] at ht
  exact q H' S' m hmd A.ds.st A.kp at_ nd (by omega) (by omega) (by omega) sep (A.cf m (List.mem_singleton.mpr rfl))
end Q8

namespace Q8
open PySem PySem.Spec PyProof.Rows L2 StX TL
/-! ### models get their nodes -/
/-- the dicts of the models ex alone change: each has its node now -/
structure Mv (ex : List Addr) (nd nd' : Addr → Option Addr) (H H' : Hp) : Prop where
  kp : KpX ex H H'
  out : ∀ d, d ∉ ex → nd' d = nd d
  in_ : ∀ d ∈ ex, ∀ k pl sp, H d = some (.dK (mdKv k pl sp (nd d))) → H' d = some (.dK (mdKv k pl sp (nd' d)))
  dk : ∀ d ∈ ex, ∃ kvs, H' d = some (.dK kvs)
section
variable {ex e1 e2 : List Addr} {nd nd1 nd2 nd' : Addr → Option Addr} {H H1 H2 H' : Hp} {K : PySem.W.Frag} {C : Addr} {Cs : Nat → Addr}
theorem Mv.same (s : Same H H') : Mv [] nd nd H H' := ⟨KpX.same s, fun _ _ => rfl, fun d hd => (by cases hd), fun d hd => (by cases hd)⟩
theorem Mv.trans (A : Mv e1 nd nd1 H H1) (B : Mv e2 nd1 nd2 H1 H2) : Mv (e1 ++ e2) nd nd2 H H2 := by
  refine ⟨fun b o n e => B.kp b o (fun z => n (List.mem_append_right _ z)) (A.kp b o (fun z => n (List.mem_append_left _ z)) e), fun d n => (B.out d fun z => n (List.mem_append_right _ z)).trans (A.out d fun z => n (List.mem_append_left _ z)), fun d hd k pl sp e => ?_, fun d hd => ?_⟩
  · have h1 : H1 d = some (.dK (mdKv k pl sp (nd1 d))) := by
      by_cases z : d ∈ e1
      · exact A.in_ d z k pl sp e
      · rw [A.out d z]; exact A.kp d _ z e
    by_cases z : d ∈ e2
    · exact B.in_ d z k pl sp h1
    · rw [B.out d z]; exact B.kp d _ z h1
  · by_cases z : d ∈ e2
    · exact B.dk d z
    · obtain ⟨kvs, h1⟩ := A.dk d ((List.mem_append.mp hd).resolve_right z)
      exact ⟨kvs, B.kp d _ z h1⟩
theorem Mv.perm (A : Mv e1 nd nd1 H H1) (h : ∀ b, b ∈ e1 ↔ b ∈ e2) : Mv e2 nd nd1 H H1 :=
  ⟨A.kp.mono fun b hb => (h b).mp hb, fun d n => A.out d fun z => n ((h d).mp z), fun d hd => A.in_ d ((h d).mpr hd), fun d hd => A.dk d ((h d).mpr hd)⟩
/-- a new thing is written -/
theorem Mv.upd_ (A : Mv ex nd nd' H H1) {D : Addr} {o : HO} (n : H D = none) (x : D ∉ ex) : Mv ex nd nd' H (upd H1 D o) := by
  refine ⟨fun b u nb e => ?_, A.out, fun d hd k pl sp e => ?_, fun d hd => ?_⟩
  · rw [upd_ne (ne_of_none e n)]
    exact A.kp b u nb e
  · rw [upd_ne (ne_of_none e n)]
    exact A.in_ d hd k pl sp e
  · obtain ⟨kvs, e⟩ := A.dk d hd
    exact ⟨kvs, by rw [upd_ne fun z => x (by rw [← z]; exact hd)]; exact e⟩
theorem Mv.kept (A : Mv ex nd nd' H H') (hx : ∀ d ∈ ex, ∃ kvs, H d = some (.dK kvs)) {b : Addr} {o : HO} (e : H b = some o) (n : ∀ kvs, o ≠ .dK kvs) : H' b = some o := by
  refine A.kp b o (fun z => ?_) e
  obtain ⟨kvs, g⟩ := hx b z
  rw [g] at e
  exact n kvs (Option.some.inj e).symm
theorem Cst.mv {v : V} (A : Mv ex nd nd' H H') (hx : ∀ d ∈ ex, ∃ kvs, H d = some (.dK kvs)) (h : Cst Cs H v) : Cst Cs H' v := h.map fun b o i e => A.kept hx e fun kvs z => by rw [z] at i; cases i
mutual
theorem MAt.mv (A : Mv ex nd nd' H H') (hx : ∀ d ∈ ex, ∃ kvs, H d = some (.dK kvs)) : ∀ {m : MT}, MAt Cs nd H m → MAt Cs nd' H' m
  | .md d _ _ _ _, .md h1 h2 h3 h4 h5 h6 h7 h8 => by
    refine .md ?_ (A.kept hx h2 fun _ z => by cases z) (A.kept hx h3 fun _ z => by cases z) h4 h5 h6 h7 (h8.mv A hx)
    by_cases z : d ∈ ex
    · exact A.in_ d z _ _ _ h1
    · rw [A.out d z]; exact A.kp d _ z h1
  | _, .at_ h => .at_ (h.mv A hx)
  | _, .ls h l hs => .ls (A.kept hx h fun _ z => by cases z) l (hs.mv A hx)
  | _, .tu h l hs => .tu (A.kept hx h fun _ z => by cases z) l (hs.mv A hx)
theorem MAtL.mv (A : Mv ex nd nd' H H') (hx : ∀ d ∈ ex, ∃ kvs, H d = some (.dK kvs)) : ∀ {ms : List MT}, MAtL Cs nd H ms → MAtL Cs nd' H' ms
  | _, .nil => .nil
  | _, .cons h hs => .cons (h.mv A hx) (hs.mv A hx)
end
def DdOk (Dd : Addr → Prop) (H : Hp) : Prop := ∀ b, Dd b → was H b
theorem DdOk.mv {Dd : Addr → Prop} (h : DdOk Dd H) (A : Mv ex nd nd' H H') : DdOk Dd H' := fun b hb => by
  by_cases z : b ∈ ex
  · obtain ⟨kvs, e⟩ := A.dk b z
    exact was_of e
  · obtain ⟨o, e, n⟩ := h b hb
    exact ⟨o, A.kp b o z e, n⟩
theorem DdOk.new {Dd : Addr → Prop} (h : DdOk Dd H) {p : Addr} (n : H p = none) : ¬ Dd p := fun z => not_was n (h p z)
theorem DdOk.same {Dd : Addr → Prop} (h : DdOk Dd H) (s : Same H H') : DdOk Dd H' := fun b hb => by
  obtain ⟨o, e, n⟩ := h b hb
  exact ⟨o, s _ _ e, n⟩
/-- what stands outside of Dd stands on -/
theorem Mv.res {Dd : Addr → Prop} (A : Mv ex nd nd' H H') (hx : ∀ d ∈ ex, Dd d) : Same (res Dd H) (res Dd H') := res_up fun b o n e => ⟨n, A.kp b o (fun z => n (hx b z)) e⟩
theorem valV_fkv : ∀ {ns : List Str} {vs : List V} {i : Nat} {nm : Str} {v : V}, ns.Nodup → ns[i]? = some nm → vs[i]? = some v → valV (fkv ns vs) (Sum.inr nm) = some v
  | [], vs, i, nm, v, _, h, _ => by simp at h
  | n :: ns, [], i, nm, v, _, _, h => by simp at h
  | n :: ns, u :: vs, 0, nm, v, _, h1, h2 => by
    cases h1
    cases h2
    exact valV_pos rfl
  | n :: ns, u :: vs, i + 1, nm, v, hn, h1, h2 => by
    have n2 := List.nodup_cons.mp hn
    have ne : n ≠ nm := fun z => n2.1 (z ▸ List.mem_of_getElem? (show ns[i]? = some nm from h1))
    show valV ((Sum.inr n, u) :: fkv ns vs) (Sum.inr nm) = _
    rw [valV_neg (fun z => ne (Sum.inr.inj z))]
    exact valV_fkv n2.2 h1 h2
/-! ### what is made is as the model says -/
mutual
/-- S: where the model's spots stand; R: where what is made stands -/
inductive So (C : Addr) (nd : Addr → Option Addr) (S R : Hp) : MT → V → Prop
  | at_ {v : V} : So C nd S R (.at_ v) v
  | ls {a D : Addr} {ms : List MT} {xs : List V} : R D = some (.lst xs) → SoL C nd S R ms xs → So C nd S R (.ls a ms) (.ref D)
  | tu {a D : Addr} {ms : List MT} {xs : List V} : R D = some (.tup xs) → SoL C nd S R ms xs → So C nd S R (.tu a ms) (.ref D)
  | md {d pl sp p dx dn : Addr} {k : Str} {ps : List MT} {rs : List (Str × Str × Str)} {m : List (Key × V)} {vs : List V} : nd d = some p → R p = some (.ins C dx (nodeFs k m dn)) → R dn = some (.dK (fkv (namesOf rs) vs)) → Fld.lookup k = some rs → vs.length = rs.length →
      S sp = some (.lst [atV m "lineno", atV m "col_offset", atV m "end_lineno", atV m "end_col_offset"]) → SoL C nd S R ps vs → So C nd S R (.md d pl sp k ps) (.ref p)
inductive SoL (C : Addr) (nd : Addr → Option Addr) (S R : Hp) : List MT → List V → Prop
  | nil : SoL C nd S R [] []
  | cons {m : MT} {v : V} {ms : List MT} {vs : List V} : So C nd S R m v → SoL C nd S R ms vs → SoL C nd S R (m :: ms) (v :: vs)
end
mutual
theorem So.up {C : Addr} {nd nd' : Addr → Option Addr} {S R R' : Hp} (s : Same R R') : ∀ {m : MT} {v : V}, So C nd S R m v → (∀ d ∈ m.mds, nd' d = nd d) → So C nd' S R' m v
  | _, _, .at_, _ => .at_
  | _, _, .ls h hs, e => .ls (s _ _ h) (hs.up s (by rw [mds_ls] at e; exact e))
  | _, _, .tu h hs, e => .tu (s _ _ h) (hs.up s (by rw [mds_tu] at e; exact e))
  | _, _, .md (d := d) h1 h2 h3 h4 h5 h6 hs, e => .md ((e d (by rw [mds_md]; exact List.mem_cons_self ..)).trans h1) (s _ _ h2) (s _ _ h3) h4 h5 h6 (hs.up s fun b hb => e b (by rw [mds_md]; exact List.mem_cons_of_mem _ hb))
theorem SoL.up {C : Addr} {nd nd' : Addr → Option Addr} {S R R' : Hp} (s : Same R R') : ∀ {ms : List MT} {vs : List V}, SoL C nd S R ms vs → (∀ d ∈ mdsL ms, nd' d = nd d) → SoL C nd' S R' ms vs
  | _, _, .nil, _ => .nil
  | _, _, .cons h hs, e => .cons (h.up s fun b hb => e b (by rw [mdsL_cons]; exact List.mem_append_left _ hb)) (hs.up s fun b hb => e b (by rw [mdsL_cons]; exact List.mem_append_right _ hb))
end
mutual
/-- the spots may be looked up in any heap where the model's lists are the same -/
theorem So.at_heap {C : Addr} {Cs : Nat → Addr} {nd nd0 : Addr → Option Addr} {S S' R : Hp} (k : ∀ a xs, S' a = some (.lst xs) → S a = some (.lst xs)) : ∀ {m : MT} {v : V}, So C nd S R m v → MAt Cs nd0 S' m → So C nd S' R m v
  | _, _, .at_, _ => .at_
  | _, _, .ls h hs, .ls _ _ g => .ls h (hs.at_heap k g)
  | _, _, .tu h hs, .tu _ _ g => .tu h (hs.at_heap k g)
  | _, _, .md h1 h2 h3 h4 h5 h6 hs, .md _ _ g3 _ _ _ _ g => .md h1 h2 h3 h4 h5 (by
      have z := k _ _ g3
      rw [h6] at z
      rw [g3, ← z]) (hs.at_heap k g)
theorem SoL.at_heap {C : Addr} {Cs : Nat → Addr} {nd nd0 : Addr → Option Addr} {S S' R : Hp} (k : ∀ a xs, S' a = some (.lst xs) → S a = some (.lst xs)) : ∀ {ms : List MT} {vs : List V}, SoL C nd S R ms vs → MAtL Cs nd0 S' ms → SoL C nd S' R ms vs
  | _, _, .nil, _ => .nil
  | _, _, .cons h hs, .cons g gs => .cons (h.at_heap k g) (hs.at_heap k gs)
end
mutual
theorem So.fw {C : Addr} {nd : Addr → Option Addr} {S S' R : Hp} (s : Same S S') : ∀ {m : MT} {v : V}, So C nd S R m v → So C nd S' R m v
  | _, _, .at_ => .at_
  | _, _, .ls h hs => .ls h (hs.fw s)
  | _, _, .tu h hs => .tu h (hs.fw s)
  | _, _, .md h1 h2 h3 h4 h5 h6 hs => .md h1 h2 h3 h4 h5 (s _ _ h6) (hs.fw s)
theorem SoL.fw {C : Addr} {nd : Addr → Option Addr} {S S' R : Hp} (s : Same S S') : ∀ {ms : List MT} {vs : List V}, SoL C nd S R ms vs → SoL C nd S' R ms vs
  | _, _, .nil => .nil
  | _, _, .cons h hs => .cons (h.fw s) (hs.fw s)
end
theorem SoL.snoc {C : Addr} {nd : Addr → Option Addr} {S R : Hp} {m : MT} {v : V} (x : So C nd S R m v) : ∀ {ms : List MT} {vs : List V}, SoL C nd S R ms vs → SoL C nd S R (ms ++ [m]) (vs ++ [v])
  | _, _, .nil => .cons x .nil
  | _, _, .cons h hs => .cons h (hs.snoc x)
/-! ### an item, a value, made of a model -/
structure IP (K : PySem.W.Frag) (C : Addr) (nd : Addr → Option Addr) (R : Hp) (m : MT) (v : V) : Prop where
  it : Itm K C R v
  tr : ∃ nl, TrL K C R (nodeOf C R v).toList nl ∧ ∀ n ls, All2 (MsN n) m.dict?.toList ls → ls.map (fun x => nd x.adr) = nl.map some
structure VP (K : PySem.W.Frag) (C : Addr) (nd : Addr → Option Addr) (R : Hp) (m : MT) (v : V) : Prop where
  vl : Vlu K C R v
  tr : ∃ nl, TrL K C R (kidsV C R v) nl ∧ ∀ n ls, All2 (MsN n) (below1 m) ls → ls.map (fun x => nd x.adr) = nl.map some
theorem dict_sub {m : MT} : List.Sublist (mdsL m.dict?.toList) m.mds := by
  cases e : m.dict? with
  | none => show List.Sublist (mdsL []) _; rw [mdsL_nil]; exact List.nil_sublist _
  | some x =>
    obtain ⟨rfl, _⟩ := dict_of e
    show List.Sublist (mdsL [x]) _
    rw [mdsL_cons, mdsL_nil, List.append_nil]
    exact List.Sublist.refl _
theorem map_nd {n : Nat} {ms ls : List MT} {l : List Addr} (h : All2 (MsN n) ms ls) (hl : List.Sublist (mdsL ms) l) (e : ∀ d ∈ l, nd' d = nd d) : ls.map (fun x => nd' x.adr) = ls.map (fun x => nd x.adr) :=
  List.map_congr_left fun x hx => e _ (hl.subset (h.mds (msN_mds n) x hx))
theorem IP.up {R R' : Hp} {m : MT} {v : V} (h : IP K C nd R m v) (s : Same R R') (e : ∀ d ∈ m.mds, nd' d = nd d) : IP K C nd' R' m v := by
  obtain ⟨nl, t, f⟩ := h.tr
  refine ⟨h.it.up s, nl, ?_, fun n ls a => (map_nd a dict_sub e).trans (f n ls a)⟩
  rw [nodeOf_up h.it.1 s]
  exact t.up s
theorem VP.up {R R' : Hp} {m : MT} {v : V} (h : VP K C nd R m v) (s : Same R R') (e : ∀ d ∈ m.mds, nd' d = nd d) : VP K C nd' R' m v := by
  obtain ⟨nl, t, f⟩ := h.tr
  obtain ⟨v1, v2⟩ := h.vl.up s
  refine ⟨v1, nl, ?_, fun n ls a => (map_nd a below1_sub e).trans (f n ls a)⟩
  rw [v2]
  exact t.up s
inductive IPL (K : PySem.W.Frag) (C : Addr) (nd : Addr → Option Addr) (R : Hp) : List MT → List V → Prop
  | nil : IPL K C nd R [] []
  | cons {m : MT} {v : V} {ms : List MT} {vs : List V} : IP K C nd R m v → IPL K C nd R ms vs → IPL K C nd R (m :: ms) (v :: vs)
inductive VPL (K : PySem.W.Frag) (C : Addr) (nd : Addr → Option Addr) (R : Hp) : List MT → List V → Prop
  | nil : VPL K C nd R [] []
  | cons {m : MT} {v : V} {ms : List MT} {vs : List V} : VP K C nd R m v → VPL K C nd R ms vs → VPL K C nd R (m :: ms) (v :: vs)
theorem IPL.up {R R' : Hp} (s : Same R R') : ∀ {ms : List MT} {vs : List V}, IPL K C nd R ms vs → (∀ d ∈ mdsL ms, nd' d = nd d) → IPL K C nd' R' ms vs
  | _, _, .nil, _ => .nil
  | _, _, .cons h hs, e => by
    rw [mdsL_cons] at e
    exact .cons (h.up s fun d hd => e d (List.mem_append_left _ hd)) (hs.up s fun d hd => e d (List.mem_append_right _ hd))
theorem VPL.up {R R' : Hp} (s : Same R R') : ∀ {ms : List MT} {vs : List V}, VPL K C nd R ms vs → (∀ d ∈ mdsL ms, nd' d = nd d) → VPL K C nd' R' ms vs
  | _, _, .nil, _ => .nil
  | _, _, .cons h hs, e => by
    rw [mdsL_cons] at e
    exact .cons (h.up s fun d hd => e d (List.mem_append_left _ hd)) (hs.up s fun d hd => e d (List.mem_append_right _ hd))
theorem IPL.snoc {R : Hp} {m : MT} {v : V} (x : IP K C nd R m v) : ∀ {ms : List MT} {vs : List V}, IPL K C nd R ms vs → IPL K C nd R (ms ++ [m]) (vs ++ [v])
  | _, _, .nil => .cons x .nil
  | _, _, .cons h hs => .cons h (hs.snoc x)
theorem VPL.snoc {R : Hp} {m : MT} {v : V} (x : VP K C nd R m v) : ∀ {ms : List MT} {vs : List V}, VPL K C nd R ms vs → VPL K C nd R (ms ++ [m]) (vs ++ [v])
  | _, _, .nil => .cons x .nil
  | _, _, .cons h hs => .cons h (hs.snoc x)
theorem IPL.len {R : Hp} : ∀ {ms : List MT} {vs : List V}, IPL K C nd R ms vs → vs.length = ms.length
  | _, _, .nil => rfl
  | _, _, .cons _ hs => congrArg (· + 1) hs.len
theorem VPL.len {R : Hp} : ∀ {ms : List MT} {vs : List V}, VPL K C nd R ms vs → vs.length = ms.length
  | _, _, .nil => rfl
  | _, _, .cons _ hs => congrArg (· + 1) hs.len
theorem IPL.all {R : Hp} : ∀ {ms : List MT} {vs : List V}, IPL K C nd R ms vs → ∀ v ∈ vs, Itm K C R v
  | _, _, .cons h hs, v, hv => by
    rcases List.mem_cons.mp hv with rfl | hv
    · exact h.it
    · exact hs.all v hv
theorem VPL.all {R : Hp} : ∀ {ms : List MT} {vs : List V}, VPL K C nd R ms vs → ∀ v ∈ vs, Vlu K C R v
  | _, _, .cons h hs, v, hv => by
    rcases List.mem_cons.mp hv with rfl | hv
    · exact h.vl
    · exact hs.all v hv
theorem all2_app {Q : MT → List MT → Prop} : ∀ {a b ls : List MT}, All2 Q (a ++ b) ls → ∃ l1 l2, ls = l1 ++ l2 ∧ All2 Q a l1 ∧ All2 Q b l2
  | [], b, ls, h => ⟨[], ls, rfl, .nil, h⟩
  | x :: a, b, ls, h => by
    cases h with
    | cons h1 h2 =>
      obtain ⟨l1, l2, rfl, k1, k2⟩ := all2_app h2
      exact ⟨_ ++ l1, l2, by rw [List.append_assoc], .cons h1 k1, k2⟩
theorem IPL.tr {R : Hp} : ∀ {ms : List MT} {vs : List V}, IPL K C nd R ms vs → ∃ nl, TrL K C R (vs.filterMap (nodeOf C R)) nl ∧ ∀ n ls, All2 (MsN n) (ms.filterMap MT.dict?) ls → ls.map (fun x => nd x.adr) = nl.map some
  | _, _, .nil => ⟨[], .nil, fun n ls h => by cases h; rfl⟩
  | m :: ms, v :: vs, .cons h hs => by
    obtain ⟨l1, t1, f1⟩ := h.tr
    obtain ⟨l2, t2, f2⟩ := hs.tr
    have e1 : (v :: vs).filterMap (nodeOf C R) = (nodeOf C R v).toList ++ vs.filterMap (nodeOf C R) := by
      rw [List.filterMap_cons]
      cases nodeOf C R v <;> rfl
    have e2 : (m :: ms).filterMap MT.dict? = m.dict?.toList ++ ms.filterMap MT.dict? := by
      rw [List.filterMap_cons]
      cases m.dict? <;> rfl
    refine ⟨l1 ++ l2, by rw [e1]; exact t1.app t2, fun n ls h => ?_⟩
    rw [e2] at h
    obtain ⟨a, b, rfl, k1, k2⟩ := all2_app h
    rw [List.map_append, List.map_append, f1 n a k1, f2 n b k2]
theorem VPL.tr {R : Hp} : ∀ {ms : List MT} {vs : List V}, VPL K C nd R ms vs → ∃ nl, TrL K C R (kidsL C R vs) nl ∧ ∀ n ls, All2 (MsN n) (belowM ms) ls → ls.map (fun x => nd x.adr) = nl.map some
  | _, _, .nil => ⟨[], .nil, fun n ls h => by cases h; rfl⟩
  | m :: ms, v :: vs, .cons h hs => by
    obtain ⟨l1, t1, f1⟩ := h.tr
    obtain ⟨l2, t2, f2⟩ := hs.tr
    refine ⟨l1 ++ l2, t1.app t2, fun n ls h => ?_⟩
    obtain ⟨a, b, rfl, k1, k2⟩ := all2_app (show All2 (MsN n) (below1 m ++ belowM ms) ls from h)
    rw [List.map_append, List.map_append, f1 n a k1, f2 n b k2]
end
/-! ### the promises -/
def spMp (K : PySem.W.Frag) (C : Addr) (Cs : Nat → Addr) (n : Nat) : Sp := fun vs H Q _ => ∃ (nd : Addr → Option Addr) (Dd : Addr → Prop) (m : MT), vs = [m.val] ∧ MAt Cs nd H m ∧ m.hgt < n ∧ m.mds.Nodup ∧ (∀ d ∈ m.mds, Dd d) ∧ DdOk Dd H ∧
  ∀ (H' : Hp) (v : V) (nd' : Addr → Option Addr), Mv m.mds nd nd' H H' → IP K C nd' (res Dd H') m v → VP K C nd' (res Dd H') m v → So C nd' H (res Dd H') m v → Q v H'
def spNd (K : PySem.W.Frag) (C : Addr) (Cs : Nat → Addr) (n : Nat) : Sp := fun vs H Q _ => ∃ (nd : Addr → Option Addr) (Dd : Addr → Prop) (m : MT), vs = [m.val] ∧ MAt Cs nd H m ∧ isMd m = true ∧ m.hgt ≤ n ∧ m.mds.Nodup ∧ (∀ d ∈ m.mds, Dd d) ∧ DdOk Dd H ∧
  ∀ (H' : Hp) (v : V) (nd' : Addr → Option Addr), Mv m.mds nd nd' H H' → IP K C nd' (res Dd H') m v → VP K C nd' (res Dd H') m v → So C nd' H (res Dd H') m v → Q v H'
end Q8

namespace Q8
open PySem PySem.Spec PyProof.Rows L2 StX TL
/-! ### the value of a part -/
def iSeq (K : PySem.W.Frag) (tl : TE) : TI := fun σ H R => tl σ H fun x H1 => ∃ a, x = .ref a ∧ (((∃ xs, SqL K H1 a xs) ∧ R (Itl K a) H1) ∨ ((∃ xs, SqT K H1 a xs) ∧ R (Itt K a) H1))
theorem pi_seq {X : Cx} {tg l : Expr} {tl : TE} (hl : PE X l tl) : PI X tg l (iSeq X.K tl) := by
  refine ⟨fun pins s σ H R I h => ?_⟩
  refine thn (hl.run pins s σ H _ I h) fun v s1 ⟨x, H1, I1, r1, q1⟩ => ?_
  obtain ⟨a, e, q⟩ := q1
  subst e
  cases r1
  rcases q with ⟨⟨xs, hq⟩, q⟩ | ⟨⟨xs, hq⟩, q⟩
  · obtain ⟨its, rv, p, hz⟩ := I1.list hq
    refine wpAny_pyIter_list p.isList ?_
    refine ⟨s1.heap.objs.size, [s1.heap.objs.size], _, _, H1, rfl, I1.kept (t' := s1.toks) fun b o e => Heap.get?_push_of_some _ e, turn_list a _, ⟨_, Heap.get?_push_size _ rfl, rfl, rfl⟩, fun b hb => ?_, q⟩
    have e : b = s1.heap.objs.size := by simpa using hb
    subst e
    exact I1.fpOk (Nat.le_refl _) (I1.hok.fresh (Nat.le_refl _))
  · obtain ⟨its, rv, p, hz⟩ := I1.tuple hq
    refine wpAny_pyIter_tuple (show s1.heap.IsTuple a its.toArray from p) ?_
    refine ⟨s1.heap.objs.size, [s1.heap.objs.size], _, _, H1, rfl, I1.kept (t' := s1.toks) fun b o e => Heap.get?_push_of_some _ e, turn_tuple a _, ⟨_, Heap.get?_push_size _ rfl, rfl, rfl⟩, fun b hb => ?_, q⟩
    have e : b = s1.heap.objs.size := by simpa using hb
    subst e
    exact I1.fpOk (Nat.le_refl _) (I1.hok.fresh (Nat.le_refl _))
abbrev sMp : Stmt := topS 40
theorem scMp : FnScope ["_law_part_here", "_law_found", "_law_one"] ["_law_part_here"] (defScope sMp) := ⟨rfl, rfl, rfl, by decide +kernel, rfl, by decide +kernel, by decide +kernel⟩
def isTu : MT → Bool
  | .tu _ _ => true
  | _ => false
theorem MAt.tyT {K : PySem.W.Frag} {C : Addr} {Cs : Nat → Addr} {nd : Addr → Option Addr} {H : Hp} {m : MT} (W : ValI K C Cs) (h : MAt Cs nd H m) : ∃ t, TyX K H m.val t ∧ PySem.W.kitOne K t (.type "list") = some (isLs m) ∧ PySem.W.kitOne K t (.type "dict") = some (isMd m) ∧ PySem.W.kitAny K t [.type "list", .type "tuple"] = some (isLs m || isTu m) := by
  have any : ∀ (t : Value) (a b : Bool), PySem.W.kitOne K t (.type "list") = some a → PySem.W.kitOne K t (.type "tuple") = some b → PySem.W.kitAny K t [.type "list", .type "tuple"] = some (a || b) := fun t a b h1 h2 => by
    refine kitAny_cons h1 (fun h => kitAny_cons h2 (fun h' => ?_) fun h' => by rw [h, h']; rfl) fun h => by rw [h]; rfl
    rw [h, h']
    rfl
  cases h with
  | md h1 _ _ _ _ _ _ _ =>
    have k1 : PySem.W.kitOne K (.type "dict") (.type "list") = some false := kit_ty (by decide +kernel)
    exact ⟨_, .base (.dK h1), k1, kit_ty (by show _ = some true; decide +kernel), any _ _ _ k1 (kit_ty (by show _ = some false; decide +kernel))⟩
  | at_ h =>
    obtain ⟨t, h1, _, h3⟩ := h.ty W
    exact ⟨t, h1, h3 _ (by simp [seqTs]), h3 _ (by simp [seqTs]), any _ _ _ (h3 _ (by simp [seqTs])) (h3 _ (by simp [seqTs]))⟩
  | ls h _ _ =>
    have k1 : PySem.W.kitOne K (.type "list") (.type "list") = some true := kit_ty (by decide +kernel)
    exact ⟨_, .base (.lst h), k1, kit_ty (by show _ = some false; decide +kernel), any _ _ _ k1 (kit_ty (by show _ = some false; decide +kernel))⟩
  | tu h _ _ =>
    have k1 : PySem.W.kitOne K (.type "tuple") (.type "list") = some false := kit_ty (by decide +kernel)
    exact ⟨_, .base (.tup h), k1, kit_ty (by show _ = some false; decide +kernel), any _ _ _ k1 (kit_ty (by show _ = some true; decide +kernel))⟩
section
variable {K : PySem.W.Frag} {C : Addr} {Cs : Nat → Addr} {nd nd' : Addr → Option Addr} {H H' H1 H3 H4 : Hp}
/-- what is no list, no node -/
theorem ip_plain {R : Hp} {m : MT} {v : V} {t : Value} (tk : Trk R v) (ty : TyX K R v t) (kn : PySem.W.kitOne K t (.ref C) = some false) (kl : PySem.W.kitOne K t (.type "list") = some false) (nn : nodeOf C R v = none) (nl : isL R v = false) (hd : m.dict? = none) (hb : below1 m = []) : IP K C nd R m v ∧ VP K C nd R m v := by
  have it : Itm K C R v := ⟨tk, t, ty, by rw [nn]; exact kn⟩
  refine ⟨⟨it, [], by rw [nn]; exact .nil, fun n ls h => ?_⟩, ⟨.inr ⟨it, nl, t, ty, kl⟩, [], by rw [kidsV_one nl, nn]; exact .nil, fun n ls h => ?_⟩⟩
  · rw [hd] at h
    cases h; rfl
  · rw [hb] at h
    cases h; rfl
theorem ip_cst {R : Hp} {v : V} (W : ValI K C Cs) (h : Cst Cs R v) : IP K C nd R (.at_ v) v ∧ VP K C nd R (.at_ v) v := by
  obtain ⟨t, h1, h2, h3⟩ := h.ty W
  have hl := h3 (.type "list") (by simp [seqTs])
  cases h with
  | non => exact ip_plain (fun a e => by cases e) h1 h2 hl rfl rfl rfl rfl
  | bl b => exact ip_plain (fun a e => by cases e) h1 h2 hl rfl rfl rfl rfl
  | int i => exact ip_plain (fun a e => by cases e) h1 h2 hl rfl rfl rfl rfl
  | str x => exact ip_plain (fun a e => by cases e) h1 h2 hl rfl rfl rfl rfl
  | @obj p dx j fs hj hp hf =>
    refine ip_plain (fun a e => by cases e; rw [hp]; simp) h1 h2 hl ?_ ?_ rfl rfl
    · show nodeO C p (R p) = none
      rw [hp]
      show (if Cs j = C then some p else none) = none
      rw [if_neg (W.ne j hj)]
    · show isLO (R p) = false
      rw [hp]
      rfl
theorem ip_list {R : Hp} {a D : Addr} {ms : List MT} {xs : List V} (W : ValI K C Cs) (hD : R D = some (.lst xs)) (hl : xs.length ≤ 1000) (h : IPL K C nd R ms xs) : IP K C nd R (.ls a ms) (.ref D) ∧ VP K C nd R (.ls a ms) (.ref D) := by
  have nn : nodeOf C R (.ref D) = none := by
    show nodeO C D (R D) = none
    rw [hD]; rfl
  obtain ⟨nl, t, f⟩ := h.tr
  refine ⟨⟨⟨fun b e => by cases e; rw [hD]; simp, _, .base (.lst hD), by rw [nn]; exact W.nt _ (by simp)⟩, [], by rw [nn]; exact .nil, fun n ls h => ?_⟩, ⟨.inl ⟨D, xs, rfl, hD, hl, h.all⟩, nl, by rw [kidsV_lst hD]; exact t, f⟩⟩
  cases h; rfl
theorem ip_tup {R : Hp} {a D : Addr} {ms : List MT} {xs : List V} (W : ValI K C Cs) (hD : R D = some (.tup xs)) : IP K C nd R (.tu a ms) (.ref D) ∧ VP K C nd R (.tu a ms) (.ref D) := by
  refine ip_plain (fun b e => by cases e; rw [hD]; simp) (.base (.tup hD)) (W.nt _ (by simp)) (kit_ty (by decide +kernel)) ?_ ?_ rfl rfl
  · show nodeO C D (R D) = none
    rw [hD]; rfl
  · show isLO (R D) = false
    rw [hD]; rfl
theorem cst_res {Dd : Addr → Prop} {v : V} (h : Cst Cs H v) (o : DdOk Dd H) : Cst Cs (res Dd H) v := h.map fun b u i e => res_in (fun z => by
  obtain ⟨u', e', n⟩ := o b z
  rw [e] at e'
  rw [← Option.some.inj e', i] at n
  cases n) e
/-- the items made so far stand in the list at D -/
structure Mng (K : PySem.W.Frag) (C : Addr) (Dd : Addr → Prop) (nd : Addr → Option Addr) (H1 : Hp) (D : Addr) (ms : List MT) (H3 : Hp) (nd3 : Addr → Option Addr) (xs : List V) : Prop where
  mv : Mv (mdsL ms) nd nd3 H1 H3
  at_ : H3 D = some (.lst xs)
  it : IPL K C nd3 (res (fun b => Dd b ∨ b = D) H3) ms xs
  dd : DdOk (fun b => Dd b ∨ b = D) H3
  so : SoL C nd3 H1 (res (fun b => Dd b ∨ b = D) H3) ms xs
theorem Mng.start {Dd : Addr → Prop} {D : Addr} (n : H1 D = none) (o : DdOk Dd H1) : Mng K C Dd nd H1 D [] (upd H1 D (.lst [])) nd [] := by
  refine ⟨by rw [mdsL_nil]; exact .same (same_new n), upd_same, .nil, fun b hb => ?_, .nil⟩
  rcases hb with hb | rfl
  · exact (o.same (same_new n)) b hb
  · exact was_of upd_same
theorem Mng.step {Dd : Addr → Prop} {D : Addr} {ms : List MT} {nd3 nd4 : Addr → Option Addr} {xs : List V} {m : MT} {v : V} (n : H1 D = none) (A : Mng K C Dd nd H1 D ms H3 nd3 xs) (B : Mv m.mds nd3 nd4 H3 H4) (hm : ∀ d ∈ m.mds, Dd d) (hdk : ∀ d ∈ m.mds, ∃ kvs, H1 d = some (.dK kvs)) (hdm : ∀ d ∈ mdsL ms, ∃ kvs, H1 d = some (.dK kvs)) (dj : ∀ d ∈ mdsL ms, d ∉ m.mds)
    (it : IP K C nd4 (res (fun b => Dd b ∨ b = D) H4) m v) (so : So C nd4 H1 (res (fun b => Dd b ∨ b = D) H4) m v) : H4 D = some (.lst xs) ∧ Mng K C Dd nd H1 D (ms ++ [m]) (upd H4 D (.lst (xs ++ [v]))) nd4 (xs ++ [v]) := by
  have nm : D ∉ m.mds := fun z => by
    obtain ⟨kvs, e⟩ := hdk D z
    rw [n] at e; cases e
  have nms : D ∉ mdsL ms := fun z => by
    obtain ⟨kvs, e⟩ := hdm D z
    rw [n] at e; cases e
  have hD4 := B.kp D _ nm A.at_
  have s1 : Same (res (fun b => Dd b ∨ b = D) H3) (res (fun b => Dd b ∨ b = D) H4) := B.res fun d hd => .inl (hm d hd)
  have s2 : Same (res (fun b => Dd b ∨ b = D) H4) (res (fun b => Dd b ∨ b = D) (upd H4 D (.lst (xs ++ [v])))) := res_up fun b o nb e => ⟨nb, by rw [upd_ne fun z => nb (.inr z)]; exact e⟩
  have em : mdsL (ms ++ [m]) = mdsL ms ++ m.mds := by rw [mdsL_app, mdsL_cons, mdsL_nil, List.append_nil]
  refine ⟨hD4, ⟨by rw [em]; exact (A.mv.trans B).upd_ n fun z => (List.mem_append.mp z).elim nms nm, upd_same, ?_, fun b hb => ?_, (A.so.up (s1.trans s2) fun d hd => B.out d (dj d hd)).snoc (so.up s2 fun _ _ => rfl)⟩⟩
  · exact (A.it.up (s1.trans s2) fun d hd => B.out d (dj d hd)).snoc (it.up s2 fun _ _ => rfl)
  · by_cases z : b = D
    · rw [z]; exact was_of upd_same
    · obtain ⟨o, e, ni⟩ := (A.dd.mv B) b hb
      exact ⟨o, by rw [upd_ne z]; exact e, ni⟩
theorem hgtL_at {ms : List MT} {i : Nat} {m : MT} (h : ms[i]? = some m) : m.hgt ≤ hgtL ms := hgtL_mem (List.mem_of_getElem? h)
theorem mdsL_take : ∀ {ms : List MT} (i : Nat), List.Sublist (mdsL (ms.take i)) (mdsL ms)
  | [], i => by rw [List.take_nil]; exact List.Sublist.refl _
  | m :: r, 0 => by rw [List.take_zero, mdsL_nil]; exact List.nil_sublist _
  | m :: r, i + 1 => by rw [List.take_succ_cons, mdsL_cons, mdsL_cons]; exact List.Sublist.append (List.Sublist.refl _) (mdsL_take i)
theorem take_snoc {ms : List MT} {i : Nat} {m : MT} (h : ms[i]? = some m) : ms.take (i + 1) = ms.take i ++ [m] := by rw [List.take_succ, h]; rfl
theorem mds_split {ms : List MT} {i : Nat} {m : MT} (h : ms[i]? = some m) (n : (mdsL ms).Nodup) : m.mds.Nodup ∧ (∀ d ∈ mdsL (ms.take i), d ∉ m.mds) ∧ (∀ d ∈ m.mds, d ∈ mdsL ms) ∧ ∀ d ∈ mdsL (ms.take i), d ∈ mdsL ms := by
  have e : ms = ms.take i ++ m :: ms.drop (i + 1) := by
    have hi : i < ms.length := by
      rcases Nat.lt_or_ge i ms.length with z | z
      · exact z
      · rw [List.getElem?_eq_none z] at h; cases h
    rw [List.getElem?_eq_getElem hi] at h
    cases h
    rw [← List.drop_eq_getElem_cons hi, List.take_append_drop]
  have em : mdsL ms = mdsL (ms.take i) ++ (m.mds ++ mdsL (ms.drop (i + 1))) := by
    conv => lhs; rw [e]
    rw [mdsL_app, mdsL_cons]
  rw [em] at n ⊢
  rw [List.nodup_append] at n
  obtain ⟨n1, n2, n3⟩ := n
  rw [List.nodup_append] at n2
  exact ⟨n2.1, fun d h1 h2 => n3 d h1 d (List.mem_append_left _ h2) rfl, fun d hd => List.mem_append_right _ (List.mem_append_left _ hd), fun d hd => List.mem_append_left _ hd⟩
end
end Q8

namespace Q8
open PySem PySem.Spec PyProof.Rows L2 StX TL
theorem no_mp {P : Program} {w : World} {K : PySem.W.Frag} {mg : Str → Option Value} {base : Heap} {C : Addr} {Cs : Nat → Addr} {f : Addr} {fd : FuncData} {k : Nat} {ps : List Str} : FnOk P w K mg base CX0 k f fd ps (spMp K C Cs 0) := by
  have no : ∀ vs H Q E, ¬ spMp K C Cs 0 vs H Q E := fun vs H Q E h => by
    obtain ⟨nd, Dd, m, _, _, h1, _⟩ := h
    omega
  exact ⟨fun vs H Q E h => absurd h (no vs H Q E), fun A outer s H args us vs Q E _ _ _ _ h => absurd h (no vs H Q E)⟩
section
variable {P : Program} {w : World} {K : PySem.W.Frag} {mg : Str → Option Value} {base : Heap} {C : Addr} {Cs : Nat → Addr}
theorem ok_mp {f fN : Addr} {fd dN : FuncData} (F : Fun K "_law_made_part" "_law_made_part" sMp f fd) (bF : Binds K fd ["_law_part_here"] []) (mF : mg "_law_made_part" = some (.ref f)) (Z : Blt mg) (zD : mg "dict" = none) (W : ValI K C Cs) {n k : Nat} (ih : FnOk P w K mg base CX0 k f fd ["_law_part_here"] (spMp K C Cs n))
    (NO : FnOk P w K mg base CX0 k fN dN ["_law_model_here"] (spNd K C Cs n)) (bN : Binds K dN ["_law_model_here"] []) (kN : PySem.W.keepIn K (.ref fN) = true) (mN : mg "_law_node" = some (.ref fN)) : FnOk P w K mg base CX0 (k + 1) f fd ["_law_part_here"] (spMp K C Cs (n + 1)) := by
  refine F.ok scMp (fun vs H Q E h => ?_) (fun cdv A outer s H vs Q E hr h => ?_)
  · obtain ⟨nd, Dd, m, rfl, _⟩ := h
    rfl
  obtain ⟨nd, Dd, m, rfl, hm, hh, hnd, hsub, hdd, q⟩ := h
  refine ⟨_, (C8.pss_cut (ps_if (pt_val (pe_callB call_isi (by rfl) Z.isI (by decide +kernel) (pa_cons (pv 0) (pa_cons (pe_bltn (v := .ty "dict") (by rfl) zD (by decide +kernel) rfl) pa_nil)))) (pss_one (ps_ret (pe_call NO hr rfl mN kN bN .nil pass0 (pa_cons (pv 0) pa_nil)))) pss_nil)
    (C8.pss_cut (ps_if (pt_val (pe_callB call_isiT (by rfl) Z.isI (by decide +kernel) (pa_cons (pv 0) (pa_cons (pe_tup (pa_cons (pe_bltn (v := .ty "list") (by rfl) Z.ls (by decide +kernel) rfl) (pa_cons (pe_bltn (v := .ty "tuple") (by rfl) Z.tp (by decide +kernel) rfl) pa_nil))) pa_nil))))
        (C8.pss_cut (ps_setLc (i := 1) (own := [("_law_one", 2)]) (g := gName 2) (tt := tYes) rfl scMp.nd rfl rfl (sw_true rfl rfl rfl (by decide +kernel)) (pi_seq (pv 0)) (blkOk_by (own := [("_law_one", 2)]) (N := ["_law_part_here", "_law_found", "_law_one"]) (sc := (defScope sMp)) (by decide +kernel)) (fun _ _ _ _ _ => (pg_name (i := 2) scMp.nd rfl (.inl rfl))) (fun _ _ _ _ _ => pts_nil) (fun _ _ _ _ _ => (pe_call ih hr rfl mF F.kp bF .nil pass0 (pa_cons (pv 2) pa_nil))))
        (pss_one (ps_ret (pe_ifExp (pt_val (pe_callB call_isi (by rfl) Z.isI (by decide +kernel) (pa_cons (pv 0) (pa_cons (pe_bltn (v := .ty "list") (by rfl) Z.ls (by decide +kernel) rfl) pa_nil)))) (pv 1) (pe_callTy call_tuple_of (by rfl) Z.tp (by decide +kernel) (pa_cons (pv 1) pa_nil)))))) pss_nil)
    (pss_one (ps_ret (pv 0))))), ?_⟩
  obtain ⟨ty, h1, h2, h3, h4⟩ := hm.tyT W
  have zS : (1000 : Nat) ≤ sizeLine := by decide
  refine ⟨fun σ H2 => σ = [some m.val, none, none] ∧ H2 = H ∧ isMd m = false, ?_, ?_⟩
  · refine ⟨_, rfl, m.val, .ty "dict", _, _, _, rfl, .ty _, h1, h3, _, rfl, ?_⟩
    cases hd : isMd m with
    | false => exact iteF ⟨rfl, rfl, rfl⟩
    | true =>
      refine iteT ?_
      exact ⟨_, rfl, nd, Dd, m, rfl, hm, hd, by omega, hnd, hsub, hdd, q⟩
  rintro σ H2 ⟨rfl, rfl, hd⟩
  refine ⟨fun σ H3 => σ = [some m.val, none, none] ∧ Same H2 H3 ∧ isLs m = false ∧ isTu m = false, ?_, ?_⟩
  · refine ⟨_, rfl, by show 2 ≤ sizeLine; decide, fun tp ntp => ?_⟩
    have s1 := same_new (o := .tup [.ty "list", .ty "tuple"]) ntp
    refine ⟨m.val, tp, _, _, _, _, rfl, upd_same, .cons (.ty _) (.cons (.ty _) .nil), tyX_up h1 s1, h4, _, rfl, ?_⟩
    generalize upd H2 tp (.tup [.ty "list", .ty "tuple"]) = H1 at s1
    have hm1 := hm.up s1
    have hdd1 := hdd.same s1
    -- the items
    have items : ∀ (ps : List MT), MAtL Cs nd H1 ps → hgtL ps < n + 1 → hgtL ps + 1 ≤ n → (mdsL ps).Nodup → (∀ d ∈ mdsL ps, Dd d) → ∀ (D : Addr) (_ : H1 D = none) (i : Nat) (x : V) (H3 : Hp), (ps.map MT.val)[i]? = some x → (∃ nd3 xs, Mng K C Dd nd H1 D (ps.take i) H3 nd3 xs) → ps.length ≤ 100 →
        ∀ (R : V → Hp → Prop), (∀ (H4 : Hp) (v : V), (∃ acc, H4 D = some (.lst acc) ∧ acc.length < sizeLine ∧ ∃ nd3 xs, Mng K C Dd nd H1 D (ps.take (i + 1)) (upd H4 D (.lst (acc ++ [v]))) nd3 xs) → R v H4) → ∃ E, spMp K C Cs n [x] H3 R E := by
      intro ps hps l1 l2 pnd psub D nD i x H3 hx ⟨nd3, xs, A⟩ pl R hR
      rw [List.getElem?_map] at hx
      obtain ⟨mi, hmi, rfl⟩ := Option.map_eq_some_iff.mp hx
      obtain ⟨z1, z2, z3, z4⟩ := mds_split hmi pnd
      have hmiA := hps.mem mi (List.mem_of_getElem? hmi)
      have hdk : ∀ d ∈ mdsL ps, ∃ kvs, H1 d = some (.dK kvs) := hps.has
      have hh := hgtL_at hmi
      refine ⟨fun _ _ _ => False, nd3, fun b => Dd b ∨ b = D, mi, rfl, hmiA.mv A.mv fun d hd => hdk d (z4 d hd), by omega, z1, fun d hd => .inl (psub d (z3 d hd)), A.dd, fun H4 v nd4 B it vp so => hR H4 v ?_⟩
      have so := So.at_heap (fun a xs e => A.mv.kept (fun d hd => hdk d ((mdsL_take i).subset hd)) e fun _ z => by cases z) so hmiA
      obtain ⟨hD4, A'⟩ := A.step nD B (fun d hd => psub d (z3 d hd)) (fun d hd => hdk d (z3 d hd)) (fun d hd => hdk d (z4 d hd)) z2 it so
      rw [← take_snoc hmi] at A'
      have ln := A.it.len
      rw [List.length_take] at ln
      exact ⟨xs, hD4, by omega, nd4, _, A'⟩
    cases m with
    | md d pl sp k ps => cases hd
    | at_ v => exact iteF ⟨rfl, s1, rfl, rfl⟩
    | ls a ps =>
      refine iteT ?_
      rw [hgt_ls] at hh
      rw [mds_ls] at hnd hsub q
      cases hm1 with
      | ls ha hl hps =>
      have it := items ps hps (by omega) (by omega) hnd hsub
      refine ⟨fun σ H3 => ∃ D nd3 xs, σ = [some (.ref a), some (.ref D), none] ∧ Mng K C Dd nd H1 D ps H3 nd3 xs ∧ H1 D = none, ?_, ?_⟩
      · refine ⟨_, rfl, a, rfl, .inl ⟨⟨_, SqL.of ha⟩, fun D nD => ?_⟩⟩
        refine lc_list (K := K) (a := a) (xs := ps.map MT.val) (fun i H3 => ∃ nd3 xs, Mng K C Dd nd H1 D (ps.take i) H3 nd3 xs) ⟨nd, [], .start nD hdd1⟩ (fun i H3 _ ⟨_, _, A⟩ => SqL.of (A.mv.kept (fun d hd => hps.has d ((mdsL_take i).subset hd)) ha fun _ z => by cases z)) ?_ ?_
        · rintro i x H3 hx A
          refine ⟨rfl, ?_⟩
          unfold tYes
          refine iteT ?_
          refine ⟨_, rfl, ?_⟩
          obtain ⟨E', z⟩ := it D nD i x H3 hx A hl _ (fun H4 v h => h)
          exact z
        · rintro H3 ⟨nd3, xs, A⟩
          rw [List.length_map, List.take_length] at A
          exact ⟨D, nd3, xs, rfl, A, nD⟩
      · rintro σ H3 ⟨D, nd3, xs, rfl, A, nD⟩
        have ha3 := A.mv.kept (fun d hd => hps.has d hd) ha fun _ z => by cases z
        refine ⟨_, rfl, .ref a, .ty "list", _, _, _, rfl, .ty _, .base (.lst ha3), lst_in, _, rfl, iteT ?_⟩
        have ln := A.it.len
        have sR : Same (res (fun b => Dd b ∨ b = D) H3) (res Dd H3) := res_up fun b o n e => ⟨fun z => n (.inl z), e⟩
        obtain ⟨i1, v1⟩ := ip_list (a := a) W (res_in (hdd1.new nD) A.at_) (by omega) (A.it.up sR fun _ _ => rfl)
        have mv2 : Mv (mdsL ps) nd nd3 H2 H3 := by
          have z := (Mv.same (nd := nd) s1).trans A.mv
          rw [List.nil_append] at z
          exact z
        exact ⟨_, rfl, q H3 (.ref D) nd3 mv2 i1 v1 (So.at_heap (Cs := Cs) (fun _ _ e => s1 _ _ e) (.ls (res_in (hdd1.new nD) A.at_) (A.so.up sR fun _ _ => rfl)) hm)⟩
    | tu a ps =>
      refine iteT ?_
      rw [hgt_tu] at hh
      rw [mds_tu] at hnd hsub q
      cases hm1 with
      | tu ha hl hps =>
      have it := items ps hps (by omega) (by omega) hnd hsub
      refine ⟨fun σ H3 => ∃ D nd3 xs, σ = [some (.ref a), some (.ref D), none] ∧ Mng K C Dd nd H1 D ps H3 nd3 xs ∧ H1 D = none, ?_, ?_⟩
      · refine ⟨_, rfl, a, rfl, .inr ⟨⟨_, SqT.of ha⟩, fun D nD => ?_⟩⟩
        refine lc_tup (K := K) (a := a) (xs := ps.map MT.val) (fun i H3 => ∃ nd3 xs, Mng K C Dd nd H1 D (ps.take i) H3 nd3 xs) ⟨nd, [], .start nD hdd1⟩ (fun i H3 _ ⟨_, _, A⟩ => SqT.of (A.mv.kept (fun d hd => hps.has d ((mdsL_take i).subset hd)) ha fun _ z => by cases z)) ?_ ?_
        · rintro i x H3 hx A
          refine ⟨rfl, ?_⟩
          unfold tYes
          refine iteT ?_
          refine ⟨_, rfl, ?_⟩
          obtain ⟨E', z⟩ := it D nD i x H3 hx A hl _ (fun H4 v h => h)
          exact z
        · rintro H3 ⟨nd3, xs, A⟩
          rw [List.length_map, List.take_length] at A
          exact ⟨D, nd3, xs, rfl, A, nD⟩
      · rintro σ H3 ⟨D, nd3, xs, rfl, A, nD⟩
        have ha3 := A.mv.kept (fun d hd => hps.has d hd) ha fun _ z => by cases z
        refine ⟨_, rfl, .ref a, .ty "list", _, _, _, rfl, .ty _, .base (.tup ha3), kit_ty (by show _ = some false; decide +kernel), _, rfl, iteF ?_⟩
        have ln := A.it.len
        refine ⟨_, rfl, D, _, rfl, .inl ⟨SqL.of A.at_, fun t nt => ?_⟩⟩
        have st := same_new (o := .tup xs) nt
        have mv2 : Mv (mdsL ps) nd nd3 H2 (upd H3 t (.tup xs)) := by
          have z := ((Mv.same (nd := nd) s1).trans A.mv).trans (Mv.same st)
          rw [List.nil_append, List.append_nil] at z
          exact z
        have ndt : ¬ Dd t := fun z => not_was nt (A.dd t (.inl z))
        obtain ⟨i1, v1⟩ := ip_tup (K := K) (C := C) (nd := nd3) (a := a) (ms := ps) W (res_in (B := Dd) ndt (upd_same (H := H3) (a := t) (o := .tup xs)))
        have sR : Same (res (fun b => Dd b ∨ b = D) H3) (res Dd (upd H3 t (.tup xs))) := res_up fun b o n e => ⟨fun z => n (.inl z), st _ _ e⟩
        exact q _ (.ref t) nd3 mv2 i1 v1 (So.at_heap (Cs := Cs) (fun _ _ e => s1 _ _ e) (.tu (res_in (B := Dd) ndt (upd_same (H := H3) (a := t) (o := .tup xs))) (A.so.up sR fun _ _ => rfl)) hm)
  rintro σ H3 ⟨rfl, s3, hl, ht⟩
  cases m with
  | md d pl sp k ps => cases hd
  | ls a ps => cases hl
  | tu a ps => cases ht
  | at_ v =>
    cases hm with
    | at_ hc =>
    obtain ⟨i1, v1⟩ := ip_cst (nd := nd) W (cst_res (hc.up s3) (hdd.same s3))
    rw [mds_at] at q
    exact ⟨_, rfl, q H3 v nd (.same s3) i1 v1 .at_⟩
end
end Q8

namespace Q8
open PySem PySem.Spec PyProof.Rows L2 StX TL
/-! ### the node of a model -/
theorem fkv_set : ∀ {ns : List Str} {us : List V} {i : Nat} {nm : Str} {v : V}, ns.Nodup → us.length = ns.length → ns[i]? = some nm → putK (fkv ns us) (.inr nm) v = fkv ns (us.set i v)
  | [], us, i, nm, v, _, _, h => by simp at h
  | n :: ns, [], i, nm, v, _, h, _ => by cases h
  | n :: ns, u :: us, 0, nm, v, hn, hl, h => by
    cases h
    show putK ((Sum.inr n, u) :: fkv ns us) (Sum.inr n) v = (Sum.inr n, v) :: fkv ns us
    have n2 := List.nodup_cons.mp hn
    have e : (fkv ns us).map (fun kv => if kv.1 = (Sum.inr n : Key) then (kv.1, v) else kv) = fkv ns us := by
      rw [List.map_congr_left (g := id) fun p hp => ?_, List.map_id]
      obtain ⟨m, hm, e⟩ := zip_keys p hp
      have ne : ¬ p.1 = (Sum.inr n : Key) := fun z => n2.1 (by rw [e] at z; exact Sum.inr.inj z ▸ hm)
      rw [if_neg ne]
      rfl
    simp [putK, e]
  | n :: ns, u :: us, i + 1, nm, v, hn, hl, h => by
    have n2 := List.nodup_cons.mp hn
    have ne : n ≠ nm := fun z => n2.1 (z ▸ List.mem_of_getElem? (show ns[i]? = some nm from h))
    have ih := fkv_set (us := us) (i := i) (v := v) n2.2 (Nat.succ.inj hl) h
    show putK ((Sum.inr n, u) :: fkv ns us) (Sum.inr nm) v = (Sum.inr n, u) :: fkv ns (us.set i v)
    rw [← ih]
    have hne : ¬ (Sum.inr n : Key) = Sum.inr nm := fun z => ne (Sum.inr.inj z)
    unfold putK
    rw [List.any_cons, decide_eq_false hne, Bool.false_or, List.map_cons, if_neg hne]
    split <;> rfl
section
variable {P : Program} {w : World} {K : PySem.W.Frag} {mg : Str → Option Value} {base : Heap} {aF aA C : Addr} {eF : Array DictEntry} {nF : Nat}
/-- Node.__init__ with the four keywords in the order of the attributes -/
theorem ok_iniA {f fO fD : Addr} {fd dO dD : FuncData} (F : Fun K "__init__" "Node.__init__" sNI f fd) (T : Tabs K w mg aF aA eF nF) (Z : Blt mg) (N : NodeF K C)
    (O : FnOk P w K mg base CX0 1 fO dO ["kind"] spFO) (bO : Binds K dO ["kind"] []) (kO : PySem.W.keepIn K (.ref fO) = true) (mO : mg "fields_of" = some (.ref fO))
    (bD : Binds K dD ["name", "mark"] []) (kD : PySem.W.keepIn K (.ref fD) = true) (mD : mg "_default" = some (.ref fD)) {n k : Nat} (hk1 : 1 ≤ k) (D : FnOk P w K mg base CX0 k fD dD ["name", "mark"] (spDef n C)) :
    FnRK P w K mg base CX0 (k + 1) f attrs (spIniK n C attrs) := by
  obtain ⟨oc, od, kV, doc, pm, an, cdv, ct, osl, rfl, lk, hcd⟩ := F.ex
  refine fn_starkwK (ps := ["self", "kind"]) (pv := "parts") (pd := "more") lk hcd scNI (cxUp_none) (by decide +kernel) (by decide) (fun us rest ws hl hw => ?_) (fun A outer s H vs Q E hr h => ini_core T Z N O bO kO mO bD kD mD hk1 D A outer s H vs Q E hr h)
  match us, hl, ws, hw with
  | [a, b], _, [w1, w2, w3, w4], _ =>
    cases rest with
    | nil => rfl
    | cons r rs => rfl
end
abbrev sNd : Stmt := topS 41
theorem scNd : FnScope ["_law_model_here", "_law_kind", "_law_spot_here", "_law_made", "_law_fields_here", "_law_k"] ["_law_model_here"] (defScope sNd) := ⟨rfl, rfl, rfl, by decide +kernel, rfl, by decide +kernel, by decide +kernel⟩
theorem sameRow_at : ∀ {ps : List (List Str)} {rs : List (Str × Str × Str)}, sameRow ps rs = true → ∀ {i : Nat} {p : List Str}, ps[i]? = some p → ∃ nm hd r, p = [nm, hd] ∧ rs[i]? = some r ∧ r.1 = nm
  | [], _, _, i, p, h => by simp at h
  | [n, hd] :: ps, r :: rs, h, 0, p, e => by
    cases e
    obtain ⟨h1, _⟩ := Bool.and_eq_true_iff.mp h
    exact ⟨n, hd, r, rfl, rfl, (of_decide_eq_true h1).symm⟩
  | [n, hd] :: ps, r :: rs, h, i + 1, p, e => by
    obtain ⟨_, h2⟩ := Bool.and_eq_true_iff.mp h
    exact sameRow_at h2 (i := i) e
  | [_, _] :: _, [], h, _, _, _ => by cases h
  | [] :: _, _, h, _, _, _ => by cases h
  | [_] :: _, _, h, _, _, _ => by cases h
  | (_ :: _ :: _ :: _) :: _, _, h, _, _, _ => by cases h
theorem mdKv_inj {k k' : Str} {pl pl' sp sp' : Addr} {x : Option Addr} (h : mdKv k pl sp x = mdKv k' pl' sp' x) : k = k' ∧ pl = pl' ∧ sp = sp' := by
  unfold mdKv at h
  have h1 := (List.cons.inj h).1
  have h2 := (List.cons.inj (List.cons.inj h).2).1
  have h3 := (List.cons.inj (List.cons.inj (List.cons.inj h).2).2).1
  exact ⟨V.str.inj (Prod.mk.inj h1).2, V.ref.inj (Prod.mk.inj h2).2, V.ref.inj (Prod.mk.inj h3).2⟩
theorem mdKv_put {k : Str} {pl sp p : Addr} {x : Option Addr} : mergeK (mdKv k pl sp x) (mergeK [] [((.inr "node" : Key), V.ref p)]) = mdKv k pl sp (some p) := by
  cases x <;> rfl
section
variable {P : Program} {w : World} {K : PySem.W.Frag} {mg : Str → Option Value} {base : Heap} {C : Addr} {Cs : Nat → Addr}
theorem ok_nd {f fM fF fI fG fS : Addr} {fd dM dF dS : FuncData} (F : Fun K "_law_node" "_law_node" sNd f fd) (Z : Blt mg) (Ni : NodeI K C) (Nc : NodeC K C fG fS) (MK : Mk K C fI) (mN : mg "Node" = some (.ref C)) {n k : Nat} (hk : 5 ≤ k) (NI : FnRK P w K mg base CX0 5 fI attrs (spIniK 1 C attrs))
    (ST : FnOk P w K mg base CX0 1 fS dS ["self", "at", "worth"] (spSet C)) (bS : Binds K dS ["self", "at", "worth"] [])
    (FD : FnOk P w K mg base CX0 3 fF dF ["_law_kind"] spFd) (bF : Binds K dF ["_law_kind"] []) (kF : PySem.W.keepIn K (.ref fF) = true) (mF : mg "_law_fields" = some (.ref fF))
    (MP : FnOk P w K mg base CX0 k fM dM ["_law_part_here"] (spMp K C Cs n)) (bM : Binds K dM ["_law_part_here"] []) (kM : PySem.W.keepIn K (.ref fM) = true) (mM : mg "_law_made_part" = some (.ref fM)) : FnOk P w K mg base CX0 (k + 2) f fd ["_law_model_here"] (spNd K C Cs n) := by
  refine F.ok scNd (fun vs H Q E h => ?_) (fun cdv A outer s H vs Q E hr h => ?_)
  · obtain ⟨nd, Dd, m, rfl, _⟩ := h
    rfl
  obtain ⟨nd, Dd, m, rfl, hm, hmd, hh, hnd, hsub, hdd, q⟩ := h
  have hr1 := hr.mono (show 1 ≤ k + 1 by omega)
  have hr3 := hr.mono (show 3 ≤ k + 1 by omega)
  have hr6 := hr.mono (show 6 ≤ k + 1 by omega)
  have hrk := hr.mono (show k ≤ k + 1 by omega)
  refine ⟨_, (C8.pss_cut (ps_par (by rfl) scNd.nd (i := 1) (j := 2) rfl rfl (by decide) rfl rfl (pa_cons (pe_dget (hu_of hr) (pv 0) pe_str (fun _ _ => rfl)) (pa_cons (pe_dget (hu_of hr) (pv 0) pe_str (fun _ _ => rfl)) pa_nil)) (by rfl))
    (C8.pss_cut (ps_set (i := 3) scNd.nd rfl (.inl rfl) (pe_nodeK MK NI hr6 rfl mN (pa_cons (pv 1) pa_nil) (pk_cons (pe_ix ix_list (pv 2) pe_int (fun _ _ => rfl)) (pk_cons (pe_ix ix_list (pv 2) pe_int (fun _ _ => rfl)) (pk_cons (pe_ix ix_list (pv 2) pe_int (fun _ _ => rfl)) (pk_cons (pe_ix ix_list (pv 2) pe_int (fun _ _ => rfl)) pk_nil)))) (by decide +kernel) (by decide)))
    (C8.pss_cut (ps_set (i := 4) scNd.nd rfl (.inl rfl) (pe_call FD hr3 rfl mF kF bF .nil pass0 (pa_cons (pv 1) pa_nil)))
    (C8.pss_cut (ps_for PassesOwn.never rfl (pi_range1 (by rfl) Z.rg (pa_cons (pe_callB call_len_seq rfl Z.ln PySem.boot_len (pa_cons (pv 4) pa_nil)) pa_nil)) (pg_name (i := 5) scNd.nd rfl (.inl rfl)) (pss_one (ps_asg (pe_call MP hrk rfl mM kM bM .nil pass0 (pa_cons (pe_ix ix_list (pe_dget (hu_of hr) (pv 0) pe_str (fun _ _ => rfl)) (pv 5) (fun _ _ => rfl)) pa_nil)) (pg_sub (pv 3) (pe_ix ix_tup (pe_ix ix_list (pv 4) (pv 5) (fun _ _ => rfl)) pe_int (fun _ _ => rfl)) (set_node Nc ST bS hr1)))))
    (pss_cons (ps_expr (pe_bm PySem.F.plainAttrs_dict PySem.F.slot_dict_update PySem.F.type_dict_update mt_update (pv 0) (pa_cons (pe_disp (pps_cons pe_str (pv 3) pps_nil) (by rfl) (by rfl) (fun z => by cases z) (by decide)) pa_nil)))
    (pss_one (ps_ret (pv 3)))))))), ?_⟩
  cases m with
  | at_ v => cases hmd
  | ls a ps => cases hmd
  | tu a ps => cases hmd
  | md d pl sp kd ps =>
  have hm0 := hm
  cases hm with
  | @md _ _ _ _ _ sx h1 h2 h3 h4 h5 h6 h7 h8 =>
  rw [hgt_md] at hh
  rw [mds_md] at hnd hsub q
  obtain ⟨hnd1, hnd2⟩ := List.nodup_cons.mp hnd
  have zS : (1000 : Nat) ≤ sizeLine := by decide
  obtain ⟨rs, row⟩ := Option.isSome_iff_exists.mp h6
  obtain ⟨okr, same⟩ := fields_row row
  have rl := sameRow_len same
  have hs7 := rows_small row
  have hnn := rows_nodup row
  have nl : (namesOf rs).length = rs.length := by unfold namesOf; rw [List.length_map]
  have gK : ∀ x, DGet H d (.str "kind") x ↔ DGet H d (.str "kind") x := fun _ => Iff.rfl
  have gk : DGet H d (.str "kind") (some (.str kd)) := by
    have z := DGet.k (k := Sum.inr "kind") h1
    rw [show valV (mdKv kd pl sp (nd d)) (Sum.inr "kind") = some (V.str kd) from by unfold mdKv; cases nd d <;> rfl] at z
    exact z
  have gs : DGet H d (.str "spot") (some (.ref sp)) := by
    have z := DGet.k (k := Sum.inr "spot") h1
    rw [show valV (mdKv kd pl sp (nd d)) (Sum.inr "spot") = some (V.ref sp) from by unfold mdKv; cases nd d <;> rfl] at z
    exact z
  refine ⟨fun σ H1 => σ = [some (.ref d), some (.str kd), some (.ref sp), none, none, none] ∧ H1 = H, ?_, ?_⟩
  · exact ⟨_, rfl, d, _, rfl, gk, _, rfl, d, _, rfl, gs, _, _, rfl, rfl, rfl⟩
  rintro σ H1 ⟨rfl, rfl⟩
  obtain ⟨x0, x1, x2, x3, rfl⟩ : ∃ a b c e, sx = [a, b, c, e] := match sx, h4 with | [a, b, c, e], _ => ⟨a, b, c, e, rfl⟩
  refine ⟨fun σ H2 => ∃ p dn ds m, σ = [some (.ref d), some (.str kd), some (.ref sp), some (.ref p), none, none] ∧ (atV m "lineno" = x0 ∧ atV m "col_offset" = x1 ∧ atV m "end_lineno" = x2 ∧ atV m "end_col_offset" = x3) ∧ NewN C H1 H2 p kd m rs [] dn ds, ?_, ?_⟩
  · refine ⟨_, rfl, _, rfl, sp, _, _, _, rfl, rfl, SqL.of h3, rfl, _, rfl, sp, _, _, _, rfl, rfl, SqL.of h3, rfl, _, rfl, sp, _, _, _, rfl, rfl, SqL.of h3, rfl, _, rfl, sp, _, _, _, rfl, rfl, SqL.of h3, rfl, ?_⟩
    exact ⟨kd, rs, [], rfl, rfl, row, Nat.zero_le _, .inl rfl, fun H3 p dn ds N => ⟨p, dn, ds, _, rfl, ⟨rfl, rfl, rfl, rfl⟩, N⟩⟩
  rintro σ H2 ⟨p, dn, ds, m, rfl, ⟨ea0, ea1, ea2, ea3⟩, N⟩
  obtain ⟨dx, hp2⟩ := N.at_
  have hd2 := N.dk
  have nln := N.len
  rw [List.nil_append] at hd2 nln
  refine ⟨fun σ H3 => ∃ fl, σ = [some (.ref d), some (.str kd), some (.ref sp), some (.ref p), some (.ref fl), none] ∧ Same H2 H3 ∧ FdsAt H2 H3 fl (fieldsP kd), ?_, ?_⟩
  · exact ⟨_, rfl, kd, rfl, okr, fun H3 fl s3 fa => ⟨fl, rfl, s3, fa⟩⟩
  rintro σ H3 ⟨fl, rfl, s3, nfl, as, hfl, las, hat⟩
  have s13 := N.sm.trans s3
  have hp3 := s3 _ _ hp2
  have hd3 := s3 _ _ hd2
  have mdk : ∀ b ∈ mdsL ps, ∃ kvs, H1 b = some (.dK kvs) := h8.has
  -- what stands outside of the dict of the node and the dicts of the models
  have off : ∀ {H4 : Hp} {b : Addr} {o : HO}, KpX (dn :: mdsL ps) H3 H4 → H3 b = some o → (∀ kvs, o ≠ .dK kvs) → H4 b = some o := fun {H4 b o} k e no => by
    refine k b o (fun z => ?_) e
    rcases List.mem_cons.mp z with z | z
    · rw [z, hd3] at e
      exact no _ (Option.some.inj e).symm
    · obtain ⟨kvs, g⟩ := mdk b z
      rw [s13 _ _ g] at e
      exact no _ (Option.some.inj e).symm
  have ndn1 : H1 dn = none := N.nd
  have np1 : H1 p = none := N.np
  have dnm : dn ∉ mdsL ps := fun z => by
    obtain ⟨kvs, g⟩ := mdk dn z
    rw [ndn1] at g; cases g
  have ndd : ¬ Dd dn := hdd.new ndn1
  have ndp : ¬ Dd p := hdd.new np1
  refine ⟨fun σ H4 => ∃ (x5 : Option V) (nd3 : Addr → Option Addr) (vs : List V), σ = [some (.ref d), some (.str kd), some (.ref sp), some (.ref p), some (.ref fl), x5] ∧ Mv (mdsL ps) nd nd3 H1 H4 ∧ KpX (dn :: mdsL ps) H3 H4 ∧ H4 dn = some (.dK (fkv (namesOf rs) vs)) ∧ VPL K C nd3 (res (fun b => Dd b ∨ b = dn) H4) ps vs ∧ DdOk (fun b => Dd b ∨ b = dn) H4 ∧ SoL C nd3 H1 (res (fun b => Dd b ∨ b = dn) H4) ps vs, ?_, ?_⟩
  · refine ⟨_, rfl, fl, _, rfl, .inl (SqL.of hfl), ?_⟩
    refine ⟨_, rfl, by rw [List.length_map]; omega, by rw [List.length_map]; omega, ?_⟩
    refine for_range (lo := 0) (n := ((as.map V.ref).length : Int).toNat) (fun i σ H4 => ∃ (x5 : Option V) (nd3 : Addr → Option Addr) (vs : List V), σ = [some (.ref d), some (.str kd), some (.ref sp), some (.ref p), some (.ref fl), x5] ∧ Mv (mdsL (ps.take i)) nd nd3 H1 H4 ∧ KpX (dn :: mdsL ps) H3 H4 ∧ H4 dn = some (.dK (fkv (namesOf rs) (vs ++ ds.drop i))) ∧ VPL K C nd3 (res (fun b => Dd b ∨ b = dn) H4) (ps.take i) vs ∧ DdOk (fun b => Dd b ∨ b = dn) H4 ∧ SoL C nd3 H1 (res (fun b => Dd b ∨ b = dn) H4) (ps.take i) vs)
      ⟨none, nd, [], rfl, by rw [List.take_zero, mdsL_nil]; exact .same s13, fun _ _ _ e => e, hd3, .nil, fun b hb => ?_, .nil⟩ ?_ ?_
    · rcases hb with hb | rfl
      · exact (hdd.same s13) b hb
      · exact was_of hd3
    · rintro i σ H4 hi ⟨x5, nd3, vs, rfl, mv, kx, hdn, vpl, dd, sol⟩
      have hi7 : i < as.length := by rw [List.length_map] at hi; omega
      have hip : i < ps.length := by omega
      obtain ⟨mi, hmi⟩ : ∃ mi, ps[i]? = some mi := ⟨_, List.getElem?_eq_getElem hip⟩
      obtain ⟨b, hb⟩ : ∃ b, as[i]? = some b := ⟨_, List.getElem?_eq_getElem hi7⟩
      obtain ⟨fp, hfp⟩ : ∃ fp, (fieldsP kd)[i]? = some fp := ⟨_, List.getElem?_eq_getElem (by omega)⟩
      obtain ⟨nb, hb3⟩ := hat i b fp hb hfp
      obtain ⟨nm, hd', r, rfl, hr', enm⟩ := sameRow_at same hfp
      obtain ⟨z1, z2, z3, z4⟩ := mds_split hmi hnd2
      have hmiA := h8.mem mi (List.mem_of_getElem? hmi)
      have lv := vpl.len
      rw [List.length_take] at lv
      have lvi : vs.length = i := by omega
      have hnm : (namesOf rs)[i]? = some nm := by
        unfold namesOf
        rw [List.getElem?_map, hr', ← enm]
        rfl
      -- the model's dict
      have hmv := hm0.mv mv fun b hb => mdk b (z4 b hb)
      cases hmv with
      | md g1 g2 _ _ _ _ _ _ =>
      have gp : DGet H4 d (.str "parts") (some (.ref pl)) := by
        have z := DGet.k (k := Sum.inr "parts") g1
        rw [show valV (mdKv kd pl sp (nd3 d)) (Sum.inr "parts") = some (V.ref pl) from by unfold mdKv; cases nd3 d <;> rfl] at z
        exact z
      have hm2 : (ps.map MT.val)[i]? = some mi.val := by rw [List.getElem?_map, hmi]; rfl
      refine ⟨_, rfl, d, _, rfl, gp, _, rfl, pl, _, _, _, rfl, rfl, SqL.of g2, (by rw [Int.zero_add]; exact atI_nat hm2), ?_⟩
      have hgi := hgtL_at hmi
      refine ⟨nd3, fun b => Dd b ∨ b = dn, mi, rfl, hmiA.mv mv fun b hb => mdk b (z4 b hb), by omega, z1, fun b hb => .inl (hsub b (List.mem_cons_of_mem _ (z3 b hb))), dd, fun H5 v nd4 B it vp so => ?_⟩
      have so := So.at_heap (fun a xs e => mv.kept (fun b hb => mdk b (z4 b hb)) e fun _ z => by cases z) so hmiA
      have dnmi : dn ∉ mi.mds := fun z => dnm (z3 dn z)
      have kx5 : KpX (dn :: mdsL ps) H3 H5 := kx.trans (B.kp.mono fun b hb => List.mem_cons_of_mem _ (z3 b hb))
      have hp5 := off kx5 hp3 fun _ z => by cases z
      have hfl5 := off kx5 hfl fun _ z => by cases z
      have hb5 := off kx5 hb3 fun _ z => by cases z
      have hdn5 := B.kp dn _ dnmi hdn
      have hbm : (as.map V.ref)[i]? = some (.ref b) := by rw [List.getElem?_map, hb]; rfl
      obtain ⟨u0, hu0⟩ : ∃ u0, (vs ++ ds.drop i)[i]? = some u0 := ⟨_, List.getElem?_eq_getElem (by rw [List.length_append, List.length_drop]; omega)⟩
      have lall : (vs ++ ds.drop i).length = (namesOf rs).length := by rw [List.length_append, List.length_drop]; omega
      refine ⟨_, rfl, _, rfl, _, rfl, fl, _, _, _, rfl, rfl, SqL.of hfl5, (by rw [Int.zero_add]; exact atI_nat hbm), b, _, _, _, rfl, rfl, SqT.of hb5, rfl, ?_⟩
      refine ⟨p, dx, dn, nm, _, _, u0, rfl, rfl, hp5, rfl, hdn5, valV_fkv hnn hnm hu0, ?_, ?_⟩
      · have := fkv_len (ns := namesOf rs) (vs := vs ++ ds.drop i) (by omega)
        omega
      rw [fkv_set hnn lall hnm]
      have eset : (vs ++ ds.drop i).set i v = (vs ++ [v]) ++ ds.drop (i + 1) := by
        have hid : i < ds.length := by omega
        rw [List.set_append_right _ _ (by omega), lvi, Nat.sub_self, List.drop_eq_getElem_cons hid]
        show vs ++ (v :: _) = _
        rw [List.append_assoc]
        rfl
      rw [eset]
      have s45 : Same (res (fun b => Dd b ∨ b = dn) H4) (res (fun b => Dd b ∨ b = dn) H5) := B.res fun b hb => .inl (hsub b (List.mem_cons_of_mem _ (z3 b hb)))
      have s56 : Same (res (fun b => Dd b ∨ b = dn) H5) (res (fun b => Dd b ∨ b = dn) (upd H5 dn (.dK (fkv (namesOf rs) ((vs ++ [v]) ++ ds.drop (i + 1)))))) := res_up fun b o n e => ⟨n, by rw [upd_ne fun z => n (.inr z)]; exact e⟩
      have em : mdsL (ps.take (i + 1)) = mdsL (ps.take i) ++ mi.mds := by rw [take_snoc hmi, mdsL_app, mdsL_cons, mdsL_nil, List.append_nil]
      refine ⟨_, nd4, vs ++ [v], rfl, ?_, ?_, upd_same, ?_, ?_, ?_⟩
      · rw [em]
        exact (mv.trans B).upd_ ndn1 fun z => (List.mem_append.mp z).elim (fun z => dnm (z4 dn z)) dnmi
      · intro c o nc e
        rw [upd_ne fun z => nc (by rw [z]; exact List.mem_cons_self ..)]
        exact kx5 c o nc e
      · rw [take_snoc hmi]
        exact (vpl.up (s45.trans s56) fun b hb => B.out b (z2 b hb)).snoc (vp.up s56 fun _ _ => rfl)
      · intro c hc
        by_cases z : c = dn
        · rw [z]; exact was_of upd_same
        · obtain ⟨o, e, ni⟩ := (dd.mv B) c hc
          exact ⟨o, by rw [upd_ne z]; exact e, ni⟩
      · rw [take_snoc hmi]
        exact (sol.up (s45.trans s56) fun b hb => B.out b (z2 b hb)).snoc (so.up s56 fun _ _ => rfl)
    · rintro σ H4 ⟨x5, nd3, vs, rfl, mv, kx, hdn, vpl, dd, sol⟩
      have e : ((as.map V.ref).length : Int).toNat = ps.length := by rw [List.length_map]; omega
      rw [e] at mv vpl hdn sol
      rw [List.take_length] at mv vpl sol
      rw [List.drop_of_length_le (by omega), List.append_nil] at hdn
      exact ⟨x5, nd3, vs, rfl, mv, kx, hdn, vpl, dd, sol⟩
  rintro σ H4 ⟨x5, nd3, vs, rfl, mv, kx, hdn, vpl, dd, sol⟩
  have hmv := hm0.mv mv mdk
  cases hmv with
  | md g1 g2 _ _ _ _ _ _ =>
  have lv := vpl.len
  have hp4 := off kx hp3 fun _ z => by cases z
  refine ⟨_, rfl, .inr (.inr (.inl ⟨rfl, .inl ⟨_, g1⟩⟩)), fun p7 np7 => ⟨_, rfl, ?_⟩⟩
  have n7 : d ≠ p7 := ne_of_none g1 np7
  refine ⟨upd_same, [(.inr "node", .ref p)], rfl, by show 1 ≤ 15; decide, d, p7, _, _, rfl, rfl, n7, by rw [upd_ne n7, upd_ne n7]; exact g1, upd_same, ?_, ?_⟩
  · have : (mdKv kd pl sp (nd3 d)).length ≤ 4 := by unfold mdKv; cases nd3 d <;> simp
    have e : (mergeK [] [((.inr "node" : Key), V.ref p)]).length = 1 := rfl
    omega
  rw [mdKv_put]
  have s45 : Same H4 (upd (upd H4 p7 (.dK [])) p7 (.dK (mergeK [] [((.inr "node" : Key), V.ref p)]))) := fun b o e => by
    have nb := ne_of_none e np7
    rw [upd_ne nb, upd_ne nb]
    exact e
  generalize upd (upd H4 p7 (.dK [])) p7 (.dK (mergeK [] [((.inr "node" : Key), V.ref p)])) = H5 at s45 ⊢
  have g15 := s45 _ _ g1
  have hDd : Dd d := hsub d (List.mem_cons_self ..)
  have mv6 : Mv [d] nd3 (fun b => if b = d then some p else nd3 b) H5 (upd H5 d (.dK (mdKv kd pl sp (some p)))) := by
    refine ⟨fun b o n e => ?_, fun b n => ?_, fun b hb k' pl' sp' e => ?_, fun b hb => ?_⟩
    · rw [upd_ne fun z => n (by rw [z]; simp)]
      exact e
    · exact if_neg fun z => n (by rw [z]; simp)
    · have eb := List.mem_singleton.mp hb
      subst eb
      rw [g15] at e
      obtain ⟨e1, e2, e3⟩ := mdKv_inj (HO.dK.inj (Option.some.inj e))
      subst e1 e2 e3
      show upd _ _ _ _ = some (.dK (mdKv _ _ _ (if b = b then some p else nd3 b)))
      rw [if_pos rfl]
      exact upd_same
    · rw [List.mem_singleton.mp hb]
      exact ⟨_, upd_same⟩
  have mvF : Mv (d :: mdsL ps) nd (fun b => if b = d then some p else nd3 b) H1 (upd H5 d (.dK (mdKv kd pl sp (some p)))) := by
    have z := (mv.trans (Mv.same s45)).trans mv6
    refine z.perm fun b => ?_
    simp only [List.append_nil, List.mem_append, List.mem_cons, List.not_mem_nil, or_false]
    exact ⟨fun z => z.symm, fun z => z.symm⟩
  have ndd' : d ≠ dn := fun z => ndd (z ▸ hDd)
  have ndp' : d ≠ p := fun z => ndp (z ▸ hDd)
  have up : ∀ b o, H4 b = some o → b ≠ d → (upd H5 d (.dK (mdKv kd pl sp (some p)))) b = some o := fun b o e n => by
    rw [upd_ne n]; exact s45 _ _ e
  have sR : Same (res (fun b => Dd b ∨ b = dn) H4) (res Dd (upd H5 d (.dK (mdKv kd pl sp (some p))))) := res_up fun b o n e => ⟨fun z => n (.inl z), up b o e fun z => n (.inl (by rw [z]; exact hDd))⟩
  have vplF := vpl.up (nd' := fun b => if b = d then some p else nd3 b) sR fun b hb => if_neg (fun (z : b = d) => hnd1 (by rw [← z]; exact hb))
  have rp := res_in (B := Dd) ndp (up p _ hp4 ndp'.symm)
  have rdn := res_in (B := Dd) ndd (up dn _ hdn ndd'.symm)
  have solF := sol.up (nd' := fun b => if b = d then some p else nd3 b) sR fun b hb => if_neg (fun (z : b = d) => hnd1 (by rw [← z]; exact hb))
  obtain ⟨nls, t, ft⟩ := vplF.tr
  have tr : Tr K C (res Dd (upd H5 d (.dK (mdKv kd pl sp (some p))))) p (p :: nls) := .mk ⟨dx, dn, m, rs, rp, rdn, row, by omega⟩ vplF.all t
  have nn : nodeOf C (res Dd (upd H5 d (.dK (mdKv kd pl sp (some p))))) (.ref p) = some p := by
    show nodeO C p (res Dd (upd H5 d (.dK (mdKv kd pl sp (some p)))) p) = some p
    rw [rp]
    show (if C = C then some p else none) = some p
    rw [if_pos rfl]
  have isl : isL (res Dd (upd H5 d (.dK (mdKv kd pl sp (some p))))) (.ref p) = false := by
    show isLO (res Dd (upd H5 d (.dK (mdKv kd pl sp (some p)))) p) = false
    rw [rp]; rfl
  have tyn : TyX K (res Dd (upd H5 d (.dK (mdKv kd pl sp (some p))))) (.ref p) (.ref C) := .base (.ins rp Ni.cl Ni.ha Ni.hn Ni.ht Ni.hm)
  have it : Itm K C (res Dd (upd H5 d (.dK (mdKv kd pl sp (some p))))) (.ref p) := ⟨fun b e => by cases e; rw [rp]; simp, .ref C, tyn, by rw [nn]; exact Ni.sf⟩
  have trl : TrL K C (res Dd (upd H5 d (.dK (mdKv kd pl sp (some p))))) [p] (p :: nls) := by
    have z := TrL.cons tr .nil
    rw [List.append_nil] at z
    exact z
  have fin : ∀ n' ls, All2 (MsN n') [MT.md d pl sp kd ps] ls → ls.map (fun x => (fun b => if b = d then some p else nd3 b) x.adr) = (p :: nls).map some := fun n' ls h => by
    cases h with
    | cons h hs =>
      cases hs
      rw [List.append_nil]
      cases n' with
      | zero => exact h.elim
      | succ n' =>
        obtain ⟨d', pl', sp', k', ps', ls', e1, rfl, al⟩ := h
        cases e1
        show (if d = d then some p else nd3 d) :: _ = some p :: _
        rw [if_pos rfl]
        congr 1
        exact ft n' ls' al
  exact ⟨_, rfl, q _ (.ref p) _ mvF ⟨it, p :: nls, by rw [nn]; exact trl, fin⟩ ⟨.inr ⟨it, isl, .ref C, tyn, Ni.nl⟩, p :: nls, by rw [kidsV_one isl, nn]; exact trl, fin⟩ (.md (if_pos rfl) rp rdn row (by omega) (by rw [ea0, ea1, ea2, ea3]; exact h3) solF)⟩
end
end Q8

namespace Q8
open PySem PySem.Spec PyProof.Rows L2 StX TL
/-! ### nodes of models of any height -/
section
variable {P : Program} {w : World} {K : PySem.W.Frag} {mg : Str → Option Value} {base : Heap} {C : Addr} {Cs : Nat → Addr}
theorem ok_mades {fN fM fF fI fG fS : Addr} {dN dM dF dS : FuncData} (FN : Fun K "_law_node" "_law_node" sNd fN dN) (bN : Binds K dN ["_law_model_here"] []) (mNo : mg "_law_node" = some (.ref fN)) (FM : Fun K "_law_made_part" "_law_made_part" sMp fM dM) (bM : Binds K dM ["_law_part_here"] []) (mM : mg "_law_made_part" = some (.ref fM))
    (Z : Blt mg) (zD : mg "dict" = none) (W : ValI K C Cs) (Ni : NodeI K C) (Nc : NodeC K C fG fS) (MK : Mk K C fI) (mN : mg "Node" = some (.ref C)) (NI : FnRK P w K mg base CX0 5 fI attrs (spIniK 1 C attrs))
    (ST : FnOk P w K mg base CX0 1 fS dS ["self", "at", "worth"] (spSet C)) (bS : Binds K dS ["self", "at", "worth"] [])
    (FD : FnOk P w K mg base CX0 3 fF dF ["_law_kind"] spFd) (bF : Binds K dF ["_law_kind"] []) (kF : PySem.W.keepIn K (.ref fF) = true) (mF : mg "_law_fields" = some (.ref fF)) : ∀ n : Nat,
    FnOk P w K mg base CX0 (5 + 3 * n) fM dM ["_law_part_here"] (spMp K C Cs n) ∧ FnOk P w K mg base CX0 (5 + 3 * n + 2) fN dN ["_law_model_here"] (spNd K C Cs n)
  | 0 => ⟨no_mp, ok_nd FN Z Ni Nc MK mN (Nat.le_refl 5) NI ST bS FD bF kF mF no_mp bM FM.kp mM⟩
  | n + 1 => by
    obtain ⟨h1, h2⟩ := ok_mades FN bN mNo FM bM mM Z zD W Ni Nc MK mN NI ST bS FD bF kF mF n
    have z : FnOk P w K mg base CX0 (5 + 3 * n + 2 + 1) fM dM ["_law_part_here"] (spMp K C Cs (n + 1)) := ok_mp FM bM mM Z zD W (h1.mono (Nat.le_add_right _ 2)) h2 bN FN.kp mNo
    have e : 5 + 3 * n + 2 + 1 = 5 + 3 * (n + 1) := by omega
    rw [e] at z
    exact ⟨z, ok_nd FN Z Ni Nc MK mN (Nat.le_add_right _ _) NI ST bS FD bF kF mF z bM FM.kp mM⟩
end
end Q8

namespace Q8
open PySem PySem.Spec PyProof.Rows L2 StX TL
/-! ### a constant is equal to itself -/
abbrev sE0 : Stmt := inClass (topS 9) 0
abbrev sE1 : Stmt := inClass (topS 10) 1
abbrev sE2 : Stmt := inClass (topS 11) 1
abbrev sE3 : Stmt := inClass (topS 12) 1
theorem scE0 : FnScope ["self", "other"] ["self", "other"] (defScope sE0) := ⟨rfl, rfl, rfl, by decide +kernel, rfl, by decide +kernel, by decide +kernel⟩
theorem scE1 : FnScope ["self", "other"] ["self", "other"] (defScope sE1) := ⟨rfl, rfl, rfl, by decide +kernel, rfl, by decide +kernel, by decide +kernel⟩
theorem scE2 : FnScope ["self", "other"] ["self", "other"] (defScope sE2) := ⟨rfl, rfl, rfl, by decide +kernel, rfl, by decide +kernel, by decide +kernel⟩
theorem scE3 : FnScope ["self", "other"] ["self", "other"] (defScope sE3) := ⟨rfl, rfl, rfl, by decide +kernel, rfl, by decide +kernel, by decide +kernel⟩
/-- the same object of the j-th class -/
def RS (Cs : Nat → Addr) (j : Nat) : Addr → Addr → Hp → Prop := fun a b H => a = b ∧ ∃ dx fs, H a = some (.ins (Cs j) dx fs) ∧ CFs Cs H j fs
theorem RS.mon {Cs : Nat → Addr} {j : Nat} : ∀ a b H H', Ext H H' → RS Cs j a b H → RS Cs j a b H' := fun a b H H' e ⟨h, dx, fs, h1, h2⟩ => ⟨h, dx, fs, e _ _ h1, h2.map fun b o _ z => e b o z⟩
/-- what the written part says of the classes' own == -/
structure EqF (K : PySem.W.Frag) (mg : Str → Option Value) (C : Addr) (Cs fE : Nat → Addr) : Prop where
  eq : ∀ j, j < 4 → PySem.W.findIn K (.ref (Cs j)) "__eq__" = some (some (.ref (fE j)))
  fn : ∀ j, j < 4 → PySem.W.isFn K (.ref (fE j)) = true
  sf : ∀ j, j < 4 → PySem.W.kitOne K (.ref (Cs j)) (.ref (Cs j)) = some true
  kb : ∀ j, j < 4 → PySem.W.kitOne K (.ref (Cs j)) (.type "bool") = some false
  ks : ∀ j, j < 4 → PySem.W.kitOne K (.ref (Cs j)) (.type "str") = some false
  g0 : mg "Dots" = some (.ref (Cs 0))
  g1 : mg "Float" = some (.ref (Cs 1))
  g2 : mg "Imaginary" = some (.ref (Cs 2))
  g3 : mg "Octets" = some (.ref (Cs 3))
  n1 : NoAttr K (Cs 1) "mantissa"
  n2 : NoAttr K (Cs 1) "exponent"
  n3 : NoAttr K (Cs 2) "number"
  n4 : NoAttr K (Cs 3) "numbers"
section
variable {P : Program} {w : World} {K : PySem.W.Frag} {mg : Str → Option Value} {base : Heap} {C : Addr} {Cs fE : Nat → Addr}
theorem ok_e0 {f : Addr} {fd : FuncData} (F : Fun K "__eq__" "Dots.__eq__" sE0 f fd) (Z : Blt mg) (W : ValI K C Cs) (G : EqF K mg C Cs fE) : FnOk P w K mg base CX0 1 f fd ["self", "other"] (spEq (RS Cs 0)) := by
  refine F.ok scE0 (fun vs H Q E h => ?_) (fun cdv A outer s H vs Q E hr h => ?_)
  · obtain ⟨a, b, rfl, _⟩ := h
    rfl
  obtain ⟨a, b, rfl, ⟨rfl, dx, fs, h1, h2⟩, q⟩ := h
  refine ⟨_, (pss_one (ps_ret (pe_callB call_isi (by rfl) Z.isI (by decide +kernel) (pa_cons (pv 1) (pa_cons (pe_glob (v := .ref (Cs 0)) rfl G.g0 rfl) pa_nil))))), ?_⟩
  exact ⟨_, rfl, .ref a, .ref (Cs 0), _, _, _, rfl, .own _, .base (.ins h1 (W.cl 0 (by decide)) (W.ha 0 (by decide)) W.hn W.ht (W.hm 0 (by decide))), G.sf 0 (by decide), q H Ext.rfl'⟩
theorem ok_e1 {f : Addr} {fd : FuncData} (F : Fun K "__eq__" "Float.__eq__" sE1 f fd) (Z : Blt mg) (W : ValI K C Cs) (G : EqF K mg C Cs fE) : FnOk P w K mg base CX0 1 f fd ["self", "other"] (spEq (RS Cs 1)) := by
  refine F.ok scE1 (fun vs H Q E h => ?_) (fun cdv A outer s H vs Q E hr h => ?_)
  · obtain ⟨a, b, rfl, _⟩ := h
    rfl
  obtain ⟨a, b, rfl, ⟨rfl, dx, fs, h1, x, y, rfl⟩, q⟩ := h
  refine ⟨_, (pss_one (ps_ret (pe_and (pe_callB call_isi (by rfl) Z.isI (by decide +kernel) (pa_cons (pv 1) (pa_cons (pe_glob (v := .ref (Cs 1)) rfl G.g1 rfl) pa_nil))) (pe_and (pe_cmpR op_eq (pe_fld (pv 0) rfl) (pe_fld (pv 1) rfl) (nomark _)) (pe_one (pe_cmpR op_eq (pe_fld (pv 0) rfl) (pe_fld (pv 1) rfl) (nomark _))))))), ?_⟩
  have cl := W.cl 1 (by decide)
  refine ⟨_, rfl, .ref a, .ref (Cs 1), _, _, _, rfl, .own _, .base (.ins h1 cl (W.ha 1 (by decide)) W.hn W.ht (W.hm 1 (by decide))), G.sf 1 (by decide), _, rfl, iteT ?_⟩
  refine ⟨_, rfl, a, _, dx, _, .int x, rfl, h1, cl, G.n1, rfl, _, rfl, a, _, dx, _, .int x, rfl, h1, cl, G.n1, rfl, rfl, _, rfl, ?_⟩
  rw [decide_eq_true (rfl : V.int x = V.int x)]
  refine iteT ?_
  refine ⟨_, rfl, a, _, dx, _, .int y, rfl, h1, cl, G.n2, rfl, _, rfl, a, _, dx, _, .int y, rfl, h1, cl, G.n2, rfl, rfl, ?_⟩
  rw [decide_eq_true (rfl : V.int y = V.int y)]
  exact q H Ext.rfl'
theorem ok_e2 {f f1 : Addr} {fd d1 : FuncData} (F : Fun K "__eq__" "Imaginary.__eq__" sE2 f fd) (Z : Blt mg) (W : ValI K C Cs) (G : EqF K mg C Cs fE) (E1 : FnOk P w K mg base CX0 1 (fE 1) d1 ["self", "other"] (spEq (RS Cs 1))) (b1 : Binds K d1 ["self", "other"] []) : FnOk P w K mg base CX0 2 f fd ["self", "other"] (spEq (RS Cs 2)) := by
  refine F.ok scE2 (fun vs H Q E h => ?_) (fun cdv A outer s H vs Q E hr h => ?_)
  · obtain ⟨a, b, rfl, _⟩ := h
    rfl
  obtain ⟨a, b, rfl, ⟨rfl, dx, fs, h1, p, dp, x, y, rfl, hp⟩, q⟩ := h
  refine ⟨_, (pss_one (ps_ret (pe_and (pe_callB call_isi (by rfl) Z.isI (by decide +kernel) (pa_cons (pv 1) (pa_cons (pe_glob (v := .ref (Cs 2)) rfl G.g2 rfl) pa_nil))) (pe_one (pe_cmpR (op_eqG (rcG_ins (X := _) E1 (G.eq 1 (by decide)) (G.fn 1 (by decide)) b1 pass0) hr) (pe_fld (pv 0) rfl) (pe_fld (pv 1) rfl) (nomark _)))))), ?_⟩
  have cl := W.cl 2 (by decide)
  refine ⟨_, rfl, .ref a, .ref (Cs 2), _, _, _, rfl, .own _, .base (.ins h1 cl (W.ha 2 (by decide)) W.hn W.ht (W.hm 2 (by decide))), G.sf 2 (by decide), _, rfl, iteT ?_⟩
  refine ⟨_, rfl, a, _, dx, _, .ref p, rfl, h1, cl, G.n3, rfl, _, rfl, a, _, dx, _, .ref p, rfl, h1, cl, G.n3, rfl, ?_⟩
  exact ⟨⟨p, p, dp, dp, _, _, rfl, rfl, hp, hp, rfl, dp, _, hp, x, y, rfl⟩, fun H' e => q H' e⟩
theorem ok_e3 {f : Addr} {fd : FuncData} (F : Fun K "__eq__" "Octets.__eq__" sE3 f fd) (Z : Blt mg) (W : ValI K C Cs) (G : EqF K mg C Cs fE) : FnOk P w K mg base CX0 2 f fd ["self", "other"] (spEq (RS Cs 3)) := by
  refine F.ok scE3 (fun vs H Q E h => ?_) (fun cdv A outer s H vs Q E hr h => ?_)
  · obtain ⟨a, b, rfl, _⟩ := h
    rfl
  obtain ⟨a, b, rfl, ⟨rfl, dx, fs, h1, t, is, rfl, ht⟩, q⟩ := h
  refine ⟨_, (pss_one (ps_ret (pe_and (pe_callB call_isi (by rfl) Z.isI (by decide +kernel) (pa_cons (pv 1) (pa_cons (pe_glob (v := .ref (Cs 3)) rfl G.g3 rfl) pa_nil))) (pe_one (pe_cmpR (op_eqG (rcG_tup mon_flat eqG_flat) hr) (pe_fld (pv 0) rfl) (pe_fld (pv 1) rfl) (nomark _)))))), ?_⟩
  have cl := W.cl 3 (by decide)
  refine ⟨_, rfl, .ref a, .ref (Cs 3), _, _, _, rfl, .own _, .base (.ins h1 cl (W.ha 3 (by decide)) W.hn W.ht (W.hm 3 (by decide))), G.sf 3 (by decide), _, rfl, iteT ?_⟩
  refine ⟨_, rfl, a, _, dx, _, .ref t, rfl, h1, cl, G.n4, rfl, _, rfl, a, _, dx, _, .ref t, rfl, h1, cl, G.n4, rfl, ?_⟩
  refine ⟨⟨t, t, _, _, rfl, rfl, SqT.of ht, SqT.of ht, rfl, fun i x y e1 e2 => ?_⟩, fun H' e => q H' e⟩
  rw [e1] at e2
  cases e2
  rw [List.getElem?_map] at e1
  obtain ⟨z, _, rfl⟩ := Option.map_eq_some_iff.mp e1
  exact ⟨rfl, rfl, by simp [eqV]⟩
/-- the four -/
structure Eqs (P : Program) (w : World) (K : PySem.W.Frag) (mg : Str → Option Value) (base : Heap) (C : Addr) (Cs fE : Nat → Addr) (dE : Nat → FuncData) : Prop where
  g : EqF K mg C Cs fE
  ok : ∀ j, j < 4 → FnOk P w K mg base CX0 2 (fE j) (dE j) ["self", "other"] (spEq (RS Cs j))
  b : ∀ j, j < 4 → Binds K (dE j) ["self", "other"] []
/-- x == x -/
def rSelf (Cs : Nat → Addr) : R2 := fun x y H Q => x = y ∧ Cst Cs H x ∧ ∀ H', Ext H H' → Q (.bl true) H'
theorem op_self {X : Cx} {dE : Nat → FuncData} (S : Eqs X.prog X.w X.K X.mg X.base C Cs fE dE) (hr : Room 2 X.A) : OpR X (compareOp .Eq) (rSelf Cs) := by
  intro pins s σ H x y v u Q I rx ry h
  obtain ⟨rfl, c, q⟩ := h
  cases c with
  | non => exact op_eq pins s σ H _ _ v u Q I rx ry ⟨rfl, by rw [decide_eq_true rfl]; exact q H Ext.rfl'⟩
  | bl b => exact op_eq pins s σ H _ _ v u Q I rx ry ⟨rfl, by rw [decide_eq_true rfl]; exact q H Ext.rfl'⟩
  | int i => exact op_eq pins s σ H _ _ v u Q I rx ry ⟨rfl, by rw [decide_eq_true rfl]; exact q H Ext.rfl'⟩
  | str z => exact op_eq pins s σ H _ _ v u Q I rx ry ⟨rfl, by rw [decide_eq_true rfl]; exact q H Ext.rfl'⟩
  | @obj p dx j fs hj hp hf =>
    exact op_eqG (rcG_ins (S.ok j hj) (S.g.eq j hj) (S.g.fn j hj) (S.b j hj) pass0) hr pins s σ H _ _ v u Q I rx ry ⟨⟨p, p, dx, dx, fs, fs, rfl, rfl, hp, hp, rfl, dx, fs, hp, hf⟩, q⟩
end
end Q8

namespace Q8
open PySem PySem.Spec PyProof.Rows L2 StX TL RZ
/-! ### what was made is as the model says: the law looks -/
abbrev sIp : Stmt := topS 44
theorem scIp : FnScope ["_law_found", "_law_part_here", "_law_one", "_law_two"] ["_law_found", "_law_part_here"] (defScope sIp) := ⟨rfl, rfl, rfl, by decide +kernel, rfl, by decide +kernel, by decide +kernel⟩
def spIp (C : Addr) (Cs : Nat → Addr) (n : Nat) : Sp := fun vs H Q _ => ∃ (nd : Addr → Option Addr) (m : MT) (v : V), vs = [v, m.val] ∧ MAt Cs nd H m ∧ So C nd H H m v ∧ m.hgt < n ∧ ∀ H', Same H H' → Q (.bl true) H'
def spIs (C : Addr) (Cs : Nat → Addr) (n : Nat) : Sp := fun vs H Q _ => ∃ (nd : Addr → Option Addr) (m : MT) (v : V), vs = [v, m.val] ∧ isMd m = true ∧ MAt Cs nd H m ∧ So C nd H H m v ∧ m.hgt ≤ n ∧ ∀ H', Same H H' → Q (.bl true) H'
theorem SoL.get {C : Addr} {nd : Addr → Option Addr} {S R : Hp} : ∀ {ms : List MT} {vs : List V}, SoL C nd S R ms vs → ∀ {i : Nat} {m : MT} {v : V}, ms[i]? = some m → vs[i]? = some v → So C nd S R m v
  | _, _, .nil, i, m, v, h, _ => by simp at h
  | _, _, .cons h hs, 0, m, v, e1, e2 => by cases e1; cases e2; exact h
  | _, _, .cons h hs, i + 1, m, v, e1, e2 => hs.get (i := i) e1 e2
theorem SoL.len {C : Addr} {nd : Addr → Option Addr} {S R : Hp} : ∀ {ms : List MT} {vs : List V}, SoL C nd S R ms vs → vs.length = ms.length
  | _, _, .nil => rfl
  | _, _, .cons _ hs => congrArg (· + 1) hs.len
theorem So.same {C : Addr} {nd : Addr → Option Addr} {Cs : Nat → Addr} {H H' : Hp} {m : MT} {v : V} (h : So C nd H H m v) (a : MAt Cs nd H m) (s : Same H H') : So C nd H' H' m v :=
  (h.up s fun _ _ => rfl).fw s
theorem bl_nn (b : Bool) : (!decide (V.bl b = V.bl b)) = false := by simp
theorem bl_ee (b : Bool) : decide (V.bl b = V.bl b) = true := by simp
theorem any3 {K : PySem.W.Frag} {t c1 c2 c3 : Value} (h1 : PySem.W.kitOne K t c1 = some false) (h2 : PySem.W.kitOne K t c2 = some false) (h3 : PySem.W.kitOne K t c3 = some false) : PySem.W.kitAny K t [c1, c2, c3] = some false := by
  refine kitAny_cons h1 (fun h => kitAny_cons h2 (fun h' => kitAny_cons h3 (fun h'' => ?_) fun h'' => (by cases h'')) fun h' => (by cases h')) fun h => (by cases h)
  rfl
section
variable {P : Program} {w : World} {K : PySem.W.Frag} {mg : Str → Option Value} {base : Heap} {C : Addr} {Cs fE : Nat → Addr} {dE : Nat → FuncData}
theorem Cst.bs (W : ValI K C Cs) (G : EqF K mg C Cs fE) {H : Hp} {v : V} (h : Cst Cs H v) : ∃ t, TyX K H v t ∧ PySem.W.kitOne K t (.ref C) = some false ∧ (∀ T ∈ seqTs, PySem.W.kitOne K t T = some false) ∧ (∃ b, PySem.W.kitOne K t (.type "bool") = some b) ∧ ∃ b, PySem.W.kitOne K t (.type "str") = some b := by
  obtain ⟨t, h1, h2, h3⟩ := h.ty W
  cases h with
  | non => exact ⟨_, .base .non, W.nt _ (by simp), (by unfold seqTs; intro T hT; simp only [List.mem_cons, List.not_mem_nil, or_false] at hT; rcases hT with rfl | rfl | rfl <;> exact kit_ty (by decide +kernel)), ⟨_, kit_ty (by show _ = some false; decide +kernel)⟩, ⟨_, kit_ty (by show _ = some false; decide +kernel)⟩⟩
  | bl b => exact ⟨_, .base (.bl b), W.nt _ (by simp), (by unfold seqTs; intro T hT; simp only [List.mem_cons, List.not_mem_nil, or_false] at hT; rcases hT with rfl | rfl | rfl <;> exact kit_ty (by decide +kernel)), ⟨_, kit_ty (by show _ = some true; decide +kernel)⟩, ⟨_, kit_ty (by show _ = some false; decide +kernel)⟩⟩
  | int i => exact ⟨_, .base (.int i), W.nt _ (by simp), (by unfold seqTs; intro T hT; simp only [List.mem_cons, List.not_mem_nil, or_false] at hT; rcases hT with rfl | rfl | rfl <;> exact kit_ty (by decide +kernel)), ⟨_, kit_ty (by show _ = some false; decide +kernel)⟩, ⟨_, kit_ty (by show _ = some false; decide +kernel)⟩⟩
  | str x => exact ⟨_, .base (.str x), W.nt _ (by simp), (by unfold seqTs; intro T hT; simp only [List.mem_cons, List.not_mem_nil, or_false] at hT; rcases hT with rfl | rfl | rfl <;> exact kit_ty (by decide +kernel)), ⟨_, kit_ty (by show _ = some false; decide +kernel)⟩, ⟨_, kit_ty (by show _ = some true; decide +kernel)⟩⟩
  | obj hj h hf => exact ⟨_, .base (.ins h (W.cl _ hj) (W.ha _ hj) W.hn W.ht (W.hm _ hj)), W.kn _ hj, W.kt _ hj, ⟨_, G.kb _ hj⟩, ⟨_, G.ks _ hj⟩⟩
theorem ok_ip {f fS : Addr} {fd dS : FuncData} (F : Fun K "_law_is_part" "_law_is_part" sIp f fd) (bF : Binds K fd ["_law_found", "_law_part_here"] []) (mF : mg "_law_is_part" = some (.ref f)) (Z : Blt mg) (zD : mg "dict" = none) (zA : mg "all" = none) (W : ValI K C Cs) (Ni : NodeI K C) (mN : mg "Node" = some (.ref C)) (S : Eqs P w K mg base C Cs fE dE) {n k : Nat} (hk : 2 ≤ k) (ih : FnOk P w K mg base CX0 k f fd ["_law_found", "_law_part_here"] (spIp C Cs n))
    (IS : FnOk P w K mg base CX0 k fS dS ["_law_node_here", "_law_model_here"] (spIs C Cs n)) (bS : Binds K dS ["_law_node_here", "_law_model_here"] []) (kS : PySem.W.keepIn K (.ref fS) = true) (mS : mg "_law_is_so" = some (.ref fS)) : FnOk P w K mg base CX0 (k + 1) f fd ["_law_found", "_law_part_here"] (spIp C Cs (n + 1)) := by
  refine F.ok scIp (fun vs H Q E h => ?_) (fun cdv A outer s H vs Q E hr h => ?_)
  · obtain ⟨nd, m, v, rfl, _⟩ := h
    rfl
  obtain ⟨nd, m, v, rfl, hm, hs, hh, q⟩ := h
  have hr2 := hr.mono hk
  refine ⟨_, (C8.pss_cut (ps_if (pt_val (pe_callB call_isi (by rfl) Z.isI (by decide +kernel) (pa_cons (pv 1) (pa_cons (pe_bltn (v := .ty "dict") (by rfl) zD (by decide +kernel) rfl) pa_nil)))) (pss_one (ps_ret (pe_and (pe_callB call_isi (by rfl) Z.isI (by decide +kernel) (pa_cons (pv 0) (pa_cons (pe_glob (v := .ref C) rfl mN rfl) pa_nil))) (pe_one (pe_call IS hr rfl mS kS bS .nil pass0 (pa_cons (pv 0) (pa_cons (pv 1) pa_nil))))))) pss_nil)
    (C8.pss_cut (ps_if (pt_val (pe_callB call_isiT (by rfl) Z.isI (by decide +kernel) (pa_cons (pv 1) (pa_cons (pe_tup (pa_cons (pe_bltn (v := .ty "list") (by rfl) Z.ls (by decide +kernel) rfl) (pa_cons (pe_bltn (v := .ty "tuple") (by rfl) Z.tp (by decide +kernel) rfl) pa_nil))) pa_nil)))) (C8.pss_cut (ps_if (PW.pt (pw_or (pt_cmpR op_ne (pe_callB call_isi (by rfl) Z.isI (by decide +kernel) (pa_cons (pv 0) (pa_cons (pe_bltn (v := .ty "list") (by rfl) Z.ls (by decide +kernel) rfl) pa_nil))) (pe_callB call_isi (by rfl) Z.isI (by decide +kernel) (pa_cons (pv 1) (pa_cons (pe_bltn (v := .ty "list") (by rfl) Z.ls (by decide +kernel) rfl) pa_nil))) (nomark _)) (pw_or1 (pt_cmpR op_ne (pe_callB call_isi (by rfl) Z.isI (by decide +kernel) (pa_cons (pv 0) (pa_cons (pe_bltn (v := .ty "tuple") (by rfl) Z.tp (by decide +kernel) rfl) pa_nil))) (pe_callB call_isi (by rfl) Z.isI (by decide +kernel) (pa_cons (pv 1) (pa_cons (pe_bltn (v := .ty "tuple") (by rfl) Z.tp (by decide +kernel) rfl) pa_nil))) (nomark _))))) (pss_one (ps_ret pe_bl)) pss_nil)
    (pss_one (ps_ret (pe_and (pe_cmpR op_eq (pe_callB call_len_seq rfl Z.ln PySem.boot_len (pa_cons (pv 0) pa_nil)) (pe_callB call_len_seq rfl Z.ln PySem.boot_len (pa_cons (pv 1) pa_nil)) (nomark _)) (pe_one (pe_callB (cr_all rfl) (by rfl) zA (by decide +kernel) (pa_cons (pe_lc (own := [("_law_one", 2), ("_law_two", 3)]) (g := gTup K 2 (gCons (gName 2) (gCons (gName 3) (gNil)))) (tt := tYes) rfl scIp.nd (pi_zipA (by rfl) Z.zp (pa_cons (pv 0) (pa_cons (pv 1) pa_nil))) (blkOk_by (own := [("_law_one", 2), ("_law_two", 3)]) (N := ["_law_found", "_law_part_here", "_law_one", "_law_two"]) (sc := (defScope sIp)) (by decide +kernel)) (fun _ _ _ _ _ => (pg_tup (by rfl) (pgs_cons (pg_name (i := 2) scIp.nd rfl (.inl rfl)) (pgs_cons (pg_name (i := 3) scIp.nd rfl (.inl rfl)) pgs_nil)))) (fun _ _ _ _ _ => pts_nil) (fun _ _ _ _ _ => (pe_call ih hr rfl mF F.kp bF .nil pass0 (pa_cons (pv 2) (pa_cons (pv 3) pa_nil))))) pa_nil))))))) pss_nil)
    (C8.pss_cut (ps_if (PW.pt (pw_or (pt_val (pe_callB call_isiT (by rfl) Z.isI (by decide +kernel) (pa_cons (pv 0) (pa_cons (pe_tup (pa_cons (pe_glob (v := .ref C) rfl mN rfl) (pa_cons (pe_bltn (v := .ty "list") (by rfl) Z.ls (by decide +kernel) rfl) (pa_cons (pe_bltn (v := .ty "tuple") (by rfl) Z.tp (by decide +kernel) rfl) pa_nil)))) pa_nil)))) (pw_or1 (pt_cmpR op_ne (pe_callB call_isi (by rfl) Z.isI (by decide +kernel) (pa_cons (pv 0) (pa_cons (pe_bltn (v := .ty "bool") (by rfl) Z.bo (by decide +kernel) rfl) pa_nil))) (pe_callB call_isi (by rfl) Z.isI (by decide +kernel) (pa_cons (pv 1) (pa_cons (pe_bltn (v := .ty "bool") (by rfl) Z.bo (by decide +kernel) rfl) pa_nil))) (nomark _))))) (pss_one (ps_ret pe_bl)) pss_nil)
    (pss_one (ps_ret (pe_and (pe_cmpR (op_self S hr2) (pv 0) (pv 1) (nomark _)) (pe_one (pe_cmpR op_eq (pe_callB call_isi (by rfl) Z.isI (by decide +kernel) (pa_cons (pv 0) (pa_cons (pe_bltn (v := .ty "str") (by rfl) Z.st (by decide +kernel) rfl) pa_nil))) (pe_callB call_isi (by rfl) Z.isI (by decide +kernel) (pa_cons (pv 1) (pa_cons (pe_bltn (v := .ty "str") (by rfl) Z.st (by decide +kernel) rfl) pa_nil))) (nomark _))))))))), ?_⟩
  obtain ⟨ty, h1, h2, h3, h4⟩ := hm.tyT W
  have zS : (1000 : Nat) ≤ sizeLine := by decide
  refine ⟨fun σ H2 => σ = [some v, some m.val, none, none] ∧ H2 = H ∧ isMd m = false, ?_, ?_⟩
  · refine ⟨_, rfl, m.val, .ty "dict", _, _, _, rfl, .ty _, h1, h3, _, rfl, ?_⟩
    cases hd : isMd m with
    | false => exact iteF ⟨rfl, rfl, rfl⟩
    | true =>
      refine iteT ?_
      cases hs with
      | at_ => cases hd
      | ls _ _ => cases hd
      | tu _ _ => cases hd
      | md g1 g2 g3 g4 g5 g6 g7 =>
        exact ⟨_, rfl, _, .ref C, _, _, _, rfl, .own _, .base (.ins g2 Ni.cl Ni.ha Ni.hn Ni.ht Ni.hm), Ni.sf, _, rfl, iteT ⟨_, rfl, _, rfl, nd, _, _, rfl, hd, hm, .md g1 g2 g3 g4 g5 g6 g7, by omega, q⟩⟩
  rintro σ H2 ⟨rfl, rfl, hd⟩
  -- the items
  have items : ∀ (ps : List MT) (xs : List V) (H1 : Hp), MAtL Cs nd H1 ps → SoL C nd H1 H1 ps xs → hgtL ps < n → ps.length ≤ 100 → ∀ (D2 : Addr) (i : Nat) (H4 : Hp) (x y : V), H1 D2 = none → Same H1 H4 → H4 D2 = some (.lst ((List.replicate i true).map V.bl)) → xs[i]? = some x → (ps.map MT.val)[i]? = some y →
      ∀ (R : V → Hp → Prop), (∀ (H5 : Hp), (∃ acc, H5 D2 = some (.lst acc) ∧ acc.length < sizeLine ∧ Same H1 (upd H5 D2 (.lst (acc ++ [V.bl true]))) ∧ (upd H5 D2 (.lst (acc ++ [V.bl true]))) D2 = some (.lst ((List.replicate (i + 1) true).map V.bl))) → R (.bl true) H5) → ∃ E, spIp C Cs n [x, y] H4 R E := by
    intro ps xs H1 hps hsl hh hl D2 i H4 x y nD2 s4 h4 hx hy R hR
    rw [List.getElem?_map] at hy
    obtain ⟨mi, hmi, rfl⟩ := Option.map_eq_some_iff.mp hy
    have hg := hgtL_at hmi
    have hmA := hps.mem mi (List.mem_of_getElem? hmi)
    have hi := (List.getElem?_eq_some_iff.mp hmi).1
    refine ⟨fun _ _ _ => False, nd, mi, x, rfl, hmA.up s4, (hsl.get hmi hx).same hmA s4, by omega, fun H5 s5 => hR H5 ⟨_, s5 _ _ h4, ?_, fun b o e => ?_, ?_⟩⟩
    · rw [List.length_map, List.length_replicate]
      omega
    · rw [upd_ne (ne_of_none e nD2)]
      exact s5 _ _ (s4 _ _ e)
    · rw [upd_same, List.replicate_succ', List.map_append]
      rfl
  have allT : ∀ j : Nat, ((List.replicate j true).all id) = true := fun j => by simp
  refine ⟨fun σ H3 => σ = [some v, some m.val, none, none] ∧ Same H2 H3 ∧ isLs m = false ∧ isTu m = false, ?_, ?_⟩
  · refine ⟨_, rfl, by show 2 ≤ sizeLine; decide, fun tp ntp => ?_⟩
    have s1 := same_new (o := .tup [.ty "list", .ty "tuple"]) ntp
    refine ⟨m.val, tp, _, _, _, _, rfl, upd_same, .cons (.ty _) (.cons (.ty _) .nil), tyX_up h1 s1, h4, _, rfl, ?_⟩
    generalize upd H2 tp (.tup [.ty "list", .ty "tuple"]) = H1 at s1
    have hm1 := hm.up s1
    have hs1 := hs.same hm s1
    cases hs1 with
    | md _ _ _ _ _ _ _ => cases hd
    | at_ => exact iteF ⟨rfl, s1, rfl, rfl⟩
    | @ls a D ps xs hD sl =>
      refine iteT ?_
      rw [hgt_ls] at hh
      cases hm1 with
      | ls ha hl hps =>
      have kL : PySem.W.kitOne K (.type "list") (.type "tuple") = some false := kit_ty (by decide +kernel)
      refine ⟨fun σ H3 => σ = [some (.ref D), some (.ref a), none, none] ∧ H3 = H1, ?_, ?_⟩
      · refine ⟨_, rfl, .ref D, .ty "list", _, _, _, rfl, .ty _, .base (.lst hD), lst_in, _, rfl, .ref a, .ty "list", _, _, _, rfl, .ty _, .base (.lst ha), lst_in, rfl, _, rfl, ?_⟩
        rw [bl_nn]
        refine iteF ?_
        refine ⟨_, rfl, .ref D, .ty "tuple", _, _, _, rfl, .ty _, .base (.lst hD), kL, _, rfl, .ref a, .ty "tuple", _, _, _, rfl, .ty _, .base (.lst ha), kL, rfl, _, rfl, ?_⟩
        rw [bl_nn]
        exact iteF ⟨rfl, rfl⟩
      rintro σ H3 ⟨rfl, rfl⟩
      refine ⟨_, rfl, D, _, rfl, .inl (SqL.of hD), _, rfl, a, _, rfl, .inl (SqL.of ha), rfl, _, rfl, ?_⟩
      rw [List.length_map, sl.len, decide_eq_true rfl]
      refine iteT ?_
      refine ⟨_, rfl, _, rfl, D, a, _, _, rfl, .inl ⟨SqL.of hD, SqL.of ha, fun D2 nD2 => ?_⟩⟩
      refine lc_it (walk_zip (n := ps.length) (by rw [List.length_map, sl.len, Nat.min_self])) (fun i H5 => Same H3 H5 ∧ H5 D2 = some (.lst ((List.replicate i true).map V.bl))) ⟨same_new nD2, upd_same⟩ (fun i H5 _ ⟨s5, _⟩ => ⟨SqL.of (s5 _ _ hD), SqL.of (s5 _ _ ha)⟩) ?_ ?_
      · rintro i x H5 H6 hi ⟨s5, hD5⟩ ⟨T, x1, y1, rfl, nT, rfl, hx, hy⟩
        have s6 := same_new (o := .tup [x1, y1]) nT
        refine ⟨T, _, rfl, SqT.of upd_same, rfl, _, _, rfl, _, _, rfl, rfl, rfl, ?_⟩
        unfold tYes
        refine iteT ?_
        obtain ⟨E', z⟩ := items ps xs H3 hps sl (by omega) hl D2 i _ x1 y1 nD2 (s5.trans s6) (s6 _ _ hD5) hx hy (fun y H5 => ∃ acc, H5 D2 = some (.lst acc) ∧ acc.length < sizeLine ∧ Same H3 (upd H5 D2 (.lst (acc ++ [y]))) ∧ (upd H5 D2 (.lst (acc ++ [y]))) D2 = some (.lst ((List.replicate (i + 1) true).map V.bl))) (fun H5 h => h)
        exact ⟨_, rfl, _, rfl, z⟩
      · rintro H5 ⟨s5, hD5⟩
        refine ⟨D2, _, rfl, SqL.of hD5, ?_⟩
        rw [allT]
        exact q H5 (s1.trans s5)
    | @tu a D ps xs hD sl =>
      refine iteT ?_
      rw [hgt_tu] at hh
      cases hm1 with
      | tu ha hl hps =>
      have kL : PySem.W.kitOne K (.type "tuple") (.type "list") = some false := kit_ty (by decide +kernel)
      have kT : PySem.W.kitOne K (.type "tuple") (.type "tuple") = some true := kit_ty (by decide +kernel)
      refine ⟨fun σ H3 => σ = [some (.ref D), some (.ref a), none, none] ∧ H3 = H1, ?_, ?_⟩
      · refine ⟨_, rfl, .ref D, .ty "list", _, _, _, rfl, .ty _, .base (.tup hD), kL, _, rfl, .ref a, .ty "list", _, _, _, rfl, .ty _, .base (.tup ha), kL, rfl, _, rfl, ?_⟩
        rw [bl_nn]
        refine iteF ?_
        refine ⟨_, rfl, .ref D, .ty "tuple", _, _, _, rfl, .ty _, .base (.tup hD), kT, _, rfl, .ref a, .ty "tuple", _, _, _, rfl, .ty _, .base (.tup ha), kT, rfl, _, rfl, ?_⟩
        rw [bl_nn]
        exact iteF ⟨rfl, rfl⟩
      rintro σ H3 ⟨rfl, rfl⟩
      refine ⟨_, rfl, D, _, rfl, .inr (SqT.of hD), _, rfl, a, _, rfl, .inr (SqT.of ha), rfl, _, rfl, ?_⟩
      rw [List.length_map, sl.len, decide_eq_true rfl]
      refine iteT ?_
      refine ⟨_, rfl, _, rfl, D, a, _, _, rfl, .inr ⟨SqT.of hD, SqT.of ha, fun D2 nD2 => ?_⟩⟩
      refine lc_it (walk_zipT (n := ps.length) (by rw [List.length_map, sl.len, Nat.min_self])) (fun i H5 => Same H3 H5 ∧ H5 D2 = some (.lst ((List.replicate i true).map V.bl))) ⟨same_new nD2, upd_same⟩ (fun i H5 _ ⟨s5, _⟩ => ⟨SqT.of (s5 _ _ hD), SqT.of (s5 _ _ ha)⟩) ?_ ?_
      · rintro i x H5 H6 hi ⟨s5, hD5⟩ ⟨T, x1, y1, rfl, nT, rfl, hx, hy⟩
        have s6 := same_new (o := .tup [x1, y1]) nT
        refine ⟨T, _, rfl, SqT.of upd_same, rfl, _, _, rfl, _, _, rfl, rfl, rfl, ?_⟩
        unfold tYes
        refine iteT ?_
        obtain ⟨E', z⟩ := items ps xs H3 hps sl (by omega) hl D2 i _ x1 y1 nD2 (s5.trans s6) (s6 _ _ hD5) hx hy (fun y H5 => ∃ acc, H5 D2 = some (.lst acc) ∧ acc.length < sizeLine ∧ Same H3 (upd H5 D2 (.lst (acc ++ [y]))) ∧ (upd H5 D2 (.lst (acc ++ [y]))) D2 = some (.lst ((List.replicate (i + 1) true).map V.bl))) (fun H5 h => h)
        exact ⟨_, rfl, _, rfl, z⟩
      · rintro H5 ⟨s5, hD5⟩
        refine ⟨D2, _, rfl, SqL.of hD5, ?_⟩
        rw [allT]
        exact q H5 (s1.trans s5)
  rintro σ H3 ⟨rfl, s3, hl, ht⟩
  have hm3 := hm.up s3
  cases hs with
  | md _ _ _ _ _ _ _ => cases hd
  | ls _ _ => cases hl
  | tu _ _ => cases ht
  | at_ =>
    cases hm3 with
    | at_ hc =>
    refine ⟨fun σ H4 => σ = [some v, some v, none, none] ∧ Same H3 H4, ?_, ?_⟩
    · obtain ⟨t, t1, t2, t3, ⟨bb, t4⟩, ⟨bs, t5⟩⟩ := hc.bs W S.g
      refine ⟨_, rfl, by show 3 ≤ sizeLine; decide, fun tp ntp => ?_⟩
      have s4 := same_new (o := .tup [.ref C, .ty "list", .ty "tuple"]) ntp
      refine ⟨v, tp, _, _, _, _, rfl, upd_same, .cons (.own _) (.cons (.ty _) (.cons (.ty _) .nil)), tyX_up t1 s4, any3 t2 (t3 _ (by simp [seqTs])) (t3 _ (by simp [seqTs])), _, rfl, iteF ?_⟩
      generalize upd H3 tp (.tup [.ref C, .ty "list", .ty "tuple"]) = H4 at s4 ⊢
      have t1' := tyX_up t1 s4
      refine ⟨_, rfl, v, .ty "bool", _, _, _, rfl, .ty _, t1', t4, _, rfl, v, .ty "bool", _, _, _, rfl, .ty _, t1', t4, rfl, _, rfl, ?_⟩
      rw [bl_nn]
      exact iteF ⟨rfl, s4⟩
    rintro σ H4 ⟨rfl, s4⟩
    have hc4 := hc.up s4
    refine ⟨_, rfl, _, rfl, rfl, hc4, fun H5 s5 => ⟨_, rfl, iteT ?_⟩⟩
    obtain ⟨t, t1, t2, t3, ⟨bb, t4⟩, ⟨bs, t5⟩⟩ := (hc4.up s5).bs W S.g
    refine ⟨_, rfl, v, .ty "str", _, _, _, rfl, .ty _, t1, t5, _, rfl, v, .ty "str", _, _, _, rfl, .ty _, t1, t5, rfl, ?_⟩
    rw [bl_ee]
    exact q H5 ((s3.trans s4).trans s5)
end
end Q8

namespace Q8
open PySem PySem.Spec PyProof.Rows L2 StX TL RZ
abbrev sIs : Stmt := topS 45
theorem scIs : FnScope ["_law_node_here", "_law_model_here", "_law_spot_here", "_law_names", "_law_pairs", "_law_name", "_law_what", "_law_k", "_law_one", "_law_two"] ["_law_node_here", "_law_model_here"] (defScope sIs) := ⟨rfl, rfl, rfl, by decide +kernel, rfl, by decide +kernel, by decide +kernel⟩
theorem ixnK {X : Cx} {K : PySem.W.Frag} (e : X.K = K) {C fG fS : Addr} {gd : FuncData} {m : Nat} {a b : Expr} {ta tb : TE} {pos : Pos} (N : NodeC K C fG fS) (F : FnOk X.prog X.w K X.mg X.base CX0 m fG gd ["self", "at"] (spGet C)) (hb : Binds K gd ["self", "at"] []) (hr : Room (m + 1) X.A) (h1 : PE X a ta) (h2 : PE X b tb)
    (hs : ∀ o i, subscripted b true o i = runValue (.builtin "lifetime.subscript" ⟨[o, i], []⟩) := by intro _ _; rfl) : PE X (.Subscript a b pos) (tIxN C ta tb) := by
  subst e
  exact pe_ixN N F hb hr h1 h2 hs
theorem num_flat {x : V} (h : isNum x = true) : flatV x = true ∧ flatV x = true ∧ eqV x x = true := by
  cases x with
  | non => exact ⟨rfl, rfl, rfl⟩
  | int i => exact ⟨rfl, rfl, by simp [eqV]⟩
  | _ => cases h
section
variable {P : Program} {w : World} {K : PySem.W.Frag} {mg : Str → Option Value} {base : Heap} {C : Addr} {Cs : Nat → Addr}
theorem ok_is {f fP fF fG fS : Addr} {fd dP dF dG : FuncData} (F : Fun K "_law_is_so" "_law_is_so" sIs f fd) (Z : Blt mg) (zA : mg "all" = none) (Nf : NodeF K C) (Nc : NodeC K C fG fS) (GT : FnOk P w K mg base CX0 1 fG dG ["self", "at"] (spGet C)) (bG : Binds K dG ["self", "at"] [])
    (FD : FnOk P w K mg base CX0 3 fF dF ["_law_kind"] spFd) (bF : Binds K dF ["_law_kind"] []) (kF : PySem.W.keepIn K (.ref fF) = true) (mFd : mg "_law_fields" = some (.ref fF)) {n k : Nat} (hk : 3 ≤ k)
    (IP : FnOk P w K mg base CX0 k fP dP ["_law_found", "_law_part_here"] (spIp C Cs n)) (bP : Binds K dP ["_law_found", "_law_part_here"] []) (kP : PySem.W.keepIn K (.ref fP) = true) (mP : mg "_law_is_part" = some (.ref fP)) : FnOk P w K mg base CX0 (k + 1) f fd ["_law_node_here", "_law_model_here"] (spIs C Cs n) := by
  refine F.ok scIs (fun vs H Q E h => ?_) (fun cdv A outer s H us Q E hr h => ?_)
  · obtain ⟨nd, m, v, rfl, _⟩ := h
    rfl
  obtain ⟨nd, m, v, rfl, hmd, hm, hs, hh, q⟩ := h
  have hr3 := hr.mono hk
  have hr1 := hr.mono (show 2 ≤ k by omega)
  have hrE := hr.mono (show 0 + 1 ≤ k by omega)
  have ixl : ∀ X : Cx, X.K = K → IxR X (rIxL K) := fun X e => e ▸ ix_list
  refine ⟨_, (C8.pss_cut (ps_if (pt_cmpR op_ne (pe_fld (pv 0) rfl) (pe_dget (hu_of hr) (pv 1) pe_str (fun _ _ => rfl)) (nomark _)) (pss_one (ps_ret pe_bl)) pss_nil)
    (C8.pss_cut (ps_set (i := 2) scIs.nd rfl (.inl rfl) (pe_lst (pa_cons (pe_fld (pv 0) rfl) (pa_cons (pe_fld (pv 0) rfl) (pa_cons (pe_fld (pv 0) rfl) (pa_cons (pe_fld (pv 0) rfl) pa_nil))))))
    (C8.pss_cut (ps_set (i := 3) scIs.nd rfl (.inr rfl) (pe_lc (own := [("_law_name", 5), ("_law_what", 6)]) (g := gTup K 2 (gCons (gName 5) (gCons (gName 6) (gNil)))) (tt := tYes) rfl scIs.nd (pi_list (pe_call FD hr3 rfl mFd kF bF .nil pass0 (pa_cons (pe_dget (hu_of hr) (pv 1) pe_str (fun _ _ => rfl)) pa_nil))) (blkOk_by (own := [("_law_name", 5), ("_law_what", 6)]) (N := ["_law_node_here", "_law_model_here", "_law_spot_here", "_law_names", "_law_pairs", "_law_name", "_law_what", "_law_k", "_law_one", "_law_two"]) (sc := (defScope sIs)) (by decide +kernel)) (fun _ _ _ _ _ => (pg_tup (by rfl) (pgs_cons (pg_name (i := 5) scIs.nd rfl (.inl rfl)) (pgs_cons (pg_name (i := 6) scIs.nd rfl (.inl rfl)) pgs_nil)))) (fun _ _ _ _ _ => pts_nil) (fun _ _ _ _ _ => (pv 5))))
    (C8.pss_cut (ps_setLc (i := 4) (own := [("_law_k", 7)]) (g := gName 7) (tt := tYes) rfl scIs.nd rfl rfl (sw_true rfl rfl rfl (by decide +kernel)) (pi_range1 (by rfl) Z.rg (pa_cons (pe_callB call_len_seq rfl Z.ln PySem.boot_len (pa_cons (pv 3) pa_nil)) pa_nil)) (blkOk_by (own := [("_law_k", 7)]) (N := ["_law_node_here", "_law_model_here", "_law_spot_here", "_law_names", "_law_pairs", "_law_name", "_law_what", "_law_k", "_law_one", "_law_two"]) (sc := (defScope sIs)) (by decide +kernel)) (fun _ _ _ _ _ => (pg_name (i := 7) scIs.nd rfl (.inl rfl))) (fun _ _ _ _ _ => pts_nil) (fun _ _ _ _ _ => (pe_tup (pa_cons (ixnK (K := K) rfl Nc GT bG hr1 (pv 0) (pe_ix (ixl _ rfl) (pv 3) (pv 7) (fun _ _ => rfl))) (pa_cons (pe_ix (ixl _ rfl) (pe_dget (hu_of hr) (pv 1) pe_str (fun _ _ => rfl)) (pv 7) (fun _ _ => rfl)) pa_nil)))))
    (pss_one (ps_ret (pe_and (pe_cmpR (op_eqG (rcG_list mon_flat eqG_flat) hrE) (pv 2) (pe_dget (hu_of hr) (pv 1) pe_str (fun _ _ => rfl)) (nomark _)) (pe_one (pe_callB (cr_all rfl) (by rfl) zA (by decide +kernel) (pa_cons (pe_lc (own := [("_law_one", 8), ("_law_two", 9)]) (g := gTup K 2 (gCons (gName 8) (gCons (gName 9) (gNil)))) (tt := tYes) rfl scIs.nd (pi_list (pv 4)) (blkOk_by (own := [("_law_one", 8), ("_law_two", 9)]) (N := ["_law_node_here", "_law_model_here", "_law_spot_here", "_law_names", "_law_pairs", "_law_name", "_law_what", "_law_k", "_law_one", "_law_two"]) (sc := (defScope sIs)) (by decide +kernel)) (fun _ _ _ _ _ => (pg_tup (by rfl) (pgs_cons (pg_name (i := 8) scIs.nd rfl (.inl rfl)) (pgs_cons (pg_name (i := 9) scIs.nd rfl (.inl rfl)) pgs_nil)))) (fun _ _ _ _ _ => pts_nil) (fun _ _ _ _ _ => (pe_call IP hr rfl mP kP bP .nil pass0 (pa_cons (pv 8) (pa_cons (pv 9) pa_nil))))) pa_nil)))))))))), ?_⟩
  cases hs with
  | at_ => cases hmd
  | ls _ _ => cases hmd
  | tu _ _ => cases hmd
  | @md d pl sp p dx dn kd ps rs mm vs g1 g2 g3 row hvl g6 sl =>
  have hm0 := hm
  cases hm with
  | @md _ _ _ _ _ sx h1 h2 h3 h4 h5 h6 h7 h8 =>
  rw [hgt_md] at hh
  rw [g6] at h3
  obtain rfl := HO.lst.inj (Option.some.inj h3)
  have zS : (1000 : Nat) ≤ sizeLine := by decide
  obtain ⟨okr, same⟩ := fields_row row
  have rl := sameRow_len same
  have hs7 := rows_small row
  have hnn := rows_nodup row
  have nl : (namesOf rs).length = rs.length := by unfold namesOf; rw [List.length_map]
  have lps : ps.length = rs.length := by omega
  have gk : ∀ {Hx : Hp}, Same H Hx → DGet Hx d (.str "kind") (some (.str kd)) := fun s => by
    have z := DGet.k (k := Sum.inr "kind") (s _ _ h1)
    rw [show valV (mdKv kd pl sp (nd d)) (Sum.inr "kind") = some (V.str kd) from by unfold mdKv; cases nd d <;> rfl] at z
    exact z
  have gs : ∀ {Hx : Hp}, Same H Hx → DGet Hx d (.str "spot") (some (.ref sp)) := fun s => by
    have z := DGet.k (k := Sum.inr "spot") (s _ _ h1)
    rw [show valV (mdKv kd pl sp (nd d)) (Sum.inr "spot") = some (V.ref sp) from by unfold mdKv; cases nd d <;> rfl] at z
    exact z
  have gp : ∀ {Hx : Hp}, Same H Hx → DGet Hx d (.str "parts") (some (.ref pl)) := fun s => by
    have z := DGet.k (k := Sum.inr "parts") (s _ _ h1)
    rw [show valV (mdKv kd pl sp (nd d)) (Sum.inr "parts") = some (V.ref pl) from by unfold mdKv; cases nd d <;> rfl] at z
    exact z
  refine ⟨fun σ H1 => σ = [some (.ref p), some (.ref d), none, none, none, none, none, none, none, none] ∧ H = H1, ?_, ?_⟩
  · refine ⟨_, rfl, p, C, dx, _, .str kd, rfl, g2, Nf.cl, Nf.n1, rfl, _, rfl, d, _, rfl, gk (Same.refl H), rfl, _, rfl, ?_⟩
    rw [show (!decide (V.str kd = V.str kd)) = false from by simp]
    exact iteF ⟨rfl, rfl⟩
  rintro σ H1 ⟨rfl, rfl⟩
  refine ⟨fun σ H1 => ∃ ls, σ = [some (.ref p), some (.ref d), some (.ref ls), none, none, none, none, none, none, none] ∧ Same H H1 ∧ H1 ls = some (.lst [atV mm "lineno", atV mm "col_offset", atV mm "end_lineno", atV mm "end_col_offset"]), ?_, ?_⟩
  · refine ⟨_, rfl, p, C, dx, _, _, rfl, g2, Nf.cl, Nf.n2, rfl, _, rfl, p, C, dx, _, _, rfl, g2, Nf.cl, Nf.n3, rfl, _, rfl, p, C, dx, _, _, rfl, g2, Nf.cl, Nf.n4, rfl, _, rfl, p, C, dx, _, _, rfl, g2, Nf.cl, Nf.n5, rfl, by show 4 ≤ sizeLine; decide, fun ls nls => ?_⟩
    exact ⟨ls, rfl, same_new nls, upd_same⟩
  rintro σ H1 ⟨ls, rfl, s1, hls⟩
  -- the names
  refine ⟨fun σ H2 => ∃ ln, σ = [some (.ref p), some (.ref d), some (.ref ls), some (.ref ln), none, none, none, none, none, none] ∧ Same H1 H2 ∧ H2 ln = some (.lst ((namesOf rs).map V.str)), ?_, ?_⟩
  · refine ⟨_, rfl, d, _, rfl, gk s1, kd, rfl, okr, fun H2 fl s2 fa => ?_⟩
    obtain ⟨nfl, as, hfl, las, hat⟩ := fa
    refine ⟨fl, rfl, ⟨_, SqL.of hfl⟩, fun D nD => ?_⟩
    refine lc_list (K := K) (a := fl) (xs := as.map V.ref) (fun j H3 => Same H2 H3 ∧ H3 D = some (.lst (((namesOf rs).take j).map V.str))) ⟨same_new nD, upd_same⟩ (fun j H3 _ ⟨s3, _⟩ => SqL.of (s3 _ _ hfl)) ?_ ?_
    · rintro j x H3 hx ⟨s3, h3⟩
      rw [List.getElem?_map] at hx
      obtain ⟨b, hb, rfl⟩ := Option.map_eq_some_iff.mp hx
      have hj := (List.getElem?_eq_some_iff.mp hb).1
      obtain ⟨fp, hfp⟩ : ∃ fp, (fieldsP kd)[j]? = some fp := ⟨_, List.getElem?_eq_getElem (by omega)⟩
      obtain ⟨nb, hb3⟩ := hat j b fp hb hfp
      obtain ⟨nm, hd', r, rfl, hr', enm⟩ := sameRow_at same hfp
      have hnm : (namesOf rs)[j]? = some nm := by
        unfold namesOf
        rw [List.getElem?_map, hr', ← enm]
        rfl
      refine ⟨b, _, rfl, SqT.of (s3 _ _ hb3), rfl, _, _, rfl, _, _, rfl, rfl, rfl, ?_⟩
      unfold tYes
      refine iteT ?_
      refine ⟨_, rfl, _, h3, ?_, fun c o e => ?_, ?_⟩
      · rw [List.length_map, List.length_take]
        omega
      · rw [upd_ne (ne_of_none e nD)]
        exact s3 _ _ e
      · rw [upd_same, List.take_succ, hnm, List.map_append]
        rfl
    · rintro H3 ⟨s3, h3⟩
      rw [List.length_map, show as.length = (namesOf rs).length by omega, List.take_length] at h3
      exact ⟨D, rfl, s2.trans s3, h3⟩
  rintro σ H2 ⟨ln, rfl, s12, hln⟩
  have s2 := s1.trans s12
  -- the pairs
  refine ⟨fun σ H3 => ∃ (lp : Addr) (ts : List Addr), σ = [some (.ref p), some (.ref d), some (.ref ls), some (.ref ln), some (.ref lp), none, none, none, none, none] ∧ Same H2 H3 ∧ H3 lp = some (.lst (ts.map V.ref)) ∧ ts.length = rs.length ∧ ∀ (i : Nat) t v mi, ts[i]? = some t → vs[i]? = some v → ps[i]? = some mi → H3 t = some (.tup [v, mi.val]), ?_, ?_⟩
  · refine ⟨_, rfl, ln, _, rfl, .inl (SqL.of hln), _, rfl, by rw [List.length_map]; omega, by rw [List.length_map]; omega, fun D nD => ?_⟩
    have lnn : (((namesOf rs).map V.str).length : Int).toNat = rs.length := by rw [List.length_map]; omega
    refine lc_range (lo := 0) (n := (((namesOf rs).map V.str).length : Int).toNat) (fun j H3 => ∃ ts : List Addr, Same H2 H3 ∧ H3 D = some (.lst (ts.map V.ref)) ∧ ts.length = j ∧ ∀ (i : Nat) t v mi, ts[i]? = some t → vs[i]? = some v → ps[i]? = some mi → H3 t = some (.tup [v, mi.val])) ⟨[], same_new nD, upd_same, rfl, fun i t v mi e => by simp at e⟩ ?_ ?_
    · rintro j H3 hj ⟨ts, s3, h3, lts, hts⟩
      rw [lnn] at hj
      obtain ⟨nm, hnm⟩ : ∃ nm, (namesOf rs)[j]? = some nm := ⟨_, List.getElem?_eq_getElem (by omega)⟩
      obtain ⟨v, hv⟩ : ∃ v, vs[j]? = some v := ⟨_, List.getElem?_eq_getElem (by omega)⟩
      obtain ⟨mi, hmi⟩ : ∃ mi, ps[j]? = some mi := ⟨_, List.getElem?_eq_getElem (by omega)⟩
      have sx := s2.trans s3
      have a1 : atI ((namesOf rs).map V.str) (0 + (j : Int)) = some (.str nm) := by
        rw [show (0 + (j : Int)) = (j : Int) by omega]
        exact atI_nat (by rw [List.getElem?_map, hnm]; rfl)
      have a2 : atI (ps.map MT.val) (0 + (j : Int)) = some mi.val := by
        rw [show (0 + (j : Int)) = (j : Int) by omega]
        exact atI_nat (by rw [List.getElem?_map, hmi]; rfl)
      refine ⟨rfl, ?_⟩
      unfold tYes
      refine iteT ?_
      refine ⟨_, rfl, _, rfl, _, rfl, ln, _, _, _, rfl, rfl, SqL.of (s3 _ _ hln), a1, p, dx, dn, nm, _, _, v, rfl, rfl, sx _ _ g2, rfl, sx _ _ g3, valV_fkv hnn hnm hv, ?_⟩
      refine ⟨_, rfl, d, _, rfl, gp sx, _, rfl, pl, _, _, _, rfl, rfl, SqL.of (sx _ _ h2), a2, by show 2 ≤ sizeLine; decide, fun t nt => ?_⟩
      have s4 := same_new (o := .tup [v, mi.val]) nt
      have nDt : D ≠ t := ne_of_none h3 nt
      refine ⟨_, s4 _ _ h3, ?_, ts ++ [t], fun c o e => ?_, ?_, ?_, fun i t' v' mi' e1 e2 e3 => ?_⟩
      · rw [List.length_map]
        omega
      · rw [upd_ne (ne_of_none e nD)]
        exact s4 _ _ (s3 _ _ e)
      · rw [upd_same, List.map_append]
        rfl
      · rw [List.length_append, lts]
        rfl
      · by_cases hi : i < ts.length
        · rw [List.getElem?_append_left hi] at e1
          have z := hts i t' v' mi' e1 e2 e3
          rw [upd_ne fun y => by rw [y, h3] at z; cases z]
          exact s4 _ _ z
        · have en : i = ts.length := by
            have z := (List.getElem?_eq_some_iff.mp e1).1
            rw [List.length_append, List.length_singleton] at z
            omega
          subst en
          rw [List.getElem?_append_right (Nat.le_refl _), Nat.sub_self] at e1
          rw [lts, hv] at e2
          rw [lts, hmi] at e3
          cases e1
          cases e2
          cases e3
          rw [upd_ne nDt.symm]
          exact upd_same
    · rintro H3 ⟨ts, s3, h3, lts, hts⟩
      rw [lnn] at lts
      exact ⟨D, ts, rfl, s3, h3, lts, hts⟩
  rintro σ H3 ⟨lp, ts, rfl, s23, hlp, lts, hts⟩
  have s3 := s2.trans s23
  refine ⟨_, rfl, _, rfl, d, _, rfl, gs s3, ⟨⟨ls, sp, _, _, rfl, rfl, s23 _ _ (s12 _ _ hls), s3 _ _ g6, rfl, fun i x y e1 e2 => ?_⟩, fun H4 s4 => ⟨_, rfl, iteT ?_⟩⟩⟩
  · rw [e1] at e2
    cases e2
    exact num_flat (h5 _ (List.mem_of_getElem? e1))
  have s04 := s3.trans s4
  refine ⟨_, rfl, lp, rfl, ⟨_, SqL.of (s4 _ _ hlp)⟩, fun D nD => ?_⟩
  refine lc_list (K := K) (a := lp) (xs := ts.map V.ref) (fun j H5 => Same H4 H5 ∧ H5 D = some (.lst ((List.replicate j true).map V.bl))) ⟨same_new nD, upd_same⟩ (fun j H5 _ ⟨s5, _⟩ => SqL.of (s5 _ _ (s4 _ _ hlp))) ?_ ?_
  · rintro j x H5 hx ⟨s5, h5'⟩
    rw [List.getElem?_map] at hx
    obtain ⟨t, ht, rfl⟩ := Option.map_eq_some_iff.mp hx
    have hj := (List.getElem?_eq_some_iff.mp ht).1
    obtain ⟨v, hv⟩ : ∃ v, vs[j]? = some v := ⟨_, List.getElem?_eq_getElem (by omega)⟩
    obtain ⟨mi, hmi⟩ : ∃ mi, ps[j]? = some mi := ⟨_, List.getElem?_eq_getElem (by omega)⟩
    have s35 : Same H3 H5 := Same.trans s4 s5
    refine ⟨t, _, rfl, SqT.of (s35 _ _ (hts j t v mi ht hv hmi)), rfl, _, _, rfl, _, _, rfl, rfl, rfl, ?_⟩
    unfold tYes
    refine iteT ?_
    have hmA := h8.mem mi (List.mem_of_getElem? hmi)
    have hgi := hgtL_at hmi
    refine ⟨_, rfl, _, rfl, nd, mi, v, rfl, hmA.up (s3.trans s35), (sl.get hmi hv).same hmA (s3.trans s35), by omega, fun H6 s6 => ?_⟩
    refine ⟨_, s6 _ _ h5', ?_, fun c o e => ?_, ?_⟩
    · rw [List.length_map, List.length_replicate]
      omega
    · rw [upd_ne (ne_of_none e nD)]
      exact s6 _ _ (s5 _ _ e)
    · rw [upd_same, List.replicate_succ', List.map_append]
      rfl
  · rintro H5 ⟨s5, h5'⟩
    refine ⟨D, _, rfl, SqL.of h5', ?_⟩
    rw [show ((List.replicate (ts.map V.ref).length true).all id) = true from by simp]
    exact q H5 (Same.trans s04 s5)
end
/-! ### models of any height -/
theorem no_ip {P : Program} {w : World} {K : PySem.W.Frag} {mg : Str → Option Value} {base : Heap} {C : Addr} {Cs : Nat → Addr} {f : Addr} {fd : FuncData} {k : Nat} {ps : List Str} : FnOk P w K mg base CX0 k f fd ps (spIp C Cs 0) := by
  have no : ∀ vs H Q E, ¬ spIp C Cs 0 vs H Q E := fun vs H Q E h => by
    obtain ⟨nd, m, v, _, _, _, h1, _⟩ := h
    omega
  exact ⟨fun vs H Q E h => absurd h (no vs H Q E), fun A outer s H args us vs Q E _ _ _ _ h => absurd h (no vs H Q E)⟩
end Q8

namespace Q8
open PySem PySem.Spec PyProof.Rows L2 StX TL RZ
/-! ### what handlers hand back -/
/-- no list, no node, not None; a list with what is no node in it; None; a list of nodes; a node -/
inductive RK | bd | bl | nn | gl | nd
  deriving DecidableEq
def rkOf (w : Nat) : RK := if w = 18 then .nd else if w = 14 then .nn else if 15 ≤ w then .gl else if w = 5 ∨ w = 6 ∨ w = 7 then .bl else .bd
def NodeV (C : Addr) (H : Hp) (v : V) : Prop := ∃ q dx fs, v = .ref q ∧ H q = some (.ins C dx fs) ∧ ∃ k : Str, fs.lookup ("kind" : Str) = some (.str k)
/-- typed: a node or none -/
def TyN (K : PySem.W.Frag) (C : Addr) (H : Hp) (v : V) (b : Bool) : Prop := ∃ t, TyX K H v t ∧ PySem.W.kitOne K t (.ref C) = some b
/-- item by item -/
def TyNs (K : PySem.W.Frag) (C : Addr) (H : Hp) (xs : List V) (bs : List Bool) : Prop := xs.length = bs.length ∧ ∀ (i : Nat) x b, xs[i]? = some x → bs[i]? = some b → TyN K C H x b
def ResV (K : PySem.W.Frag) (C : Addr) (H : Hp) (v : V) : RK → Prop
  | .bd => ∃ t, TyX K H v t ∧ PySem.W.kitOne K t (.ref C) = some false ∧ PySem.W.kitOne K t (.type "list") = some false ∧ v ≠ .non
  | .bl => ∃ l xs bs, v = .ref l ∧ H l = some (.lst xs) ∧ TyNs K C H xs bs ∧ bs.all id = false ∧ xs.length ≤ 10
  | .nn => v = .non
  | .gl => ∃ l xs, v = .ref l ∧ H l = some (.lst xs) ∧ (∀ x ∈ xs, NodeV C H x) ∧ xs.length ≤ 10
  | .nd => NodeV C H v
theorem NodeV.up {C : Addr} {H H' : Hp} {v : V} (h : NodeV C H v) (s : Same H H') : NodeV C H' v := by
  obtain ⟨q, dx, fs, e, h1, h2⟩ := h
  exact ⟨q, dx, fs, e, s _ _ h1, h2⟩
theorem NodeV.ty {K : PySem.W.Frag} {C : Addr} {H : Hp} {v : V} (N : NodeI K C) (h : NodeV C H v) : TyX K H v (.ref C) := by
  obtain ⟨q, dx, fs, rfl, h1, _⟩ := h
  exact .base (.ins h1 N.cl N.ha N.hn N.ht N.hm)
theorem TyN.up {K : PySem.W.Frag} {C : Addr} {H H' : Hp} {v : V} {b : Bool} (h : TyN K C H v b) (s : Same H H') : TyN K C H' v b := by
  obtain ⟨t, h1, h2⟩ := h
  exact ⟨t, tyX_up h1 s, h2⟩
abbrev sFL : Stmt := topS 27
theorem scFL : FnScope ["made", "item"] ["made"] (defScope sFL) := ⟨rfl, rfl, rfl, by decide +kernel, rfl, by decide +kernel, by decide +kernel⟩
abbrev sAI : Stmt := topS 28
theorem scAI : FnScope ["made"] ["made"] (defScope sAI) := ⟨rfl, rfl, rfl, by decide +kernel, rfl, by decide +kernel, by decide +kernel⟩
def okL : RK → Bool
  | .nn => true | .gl => true | .nd => true | _ => false
def spFL (K : PySem.W.Frag) (C : Addr) : Sp := fun vs H Q _ => ∃ (v : V) (r : RK), vs = [v] ∧ ResV K C H v r ∧ ∀ H', Same H H' → Q (.bl (okL r)) H'
def spAI (K : PySem.W.Frag) (C : Addr) : Sp := fun vs H Q _ => ∃ (v : V) (r : RK), vs = [v] ∧ ResV K C H v r ∧ okL r = true ∧ ∀ (H' : Hp) (l : Addr) (xs : List V), Same H H' → H' l = some (.lst xs) → xs.length ≤ 10 → Q (.ref l) H'
section
variable {P : Program} {w : World} {K : PySem.W.Frag} {mg : Str → Option Value} {base : Heap} {C : Addr}
theorem ok_fl {f : Addr} {fd : FuncData} (F : Fun K "_fits_list" "_fits_list" sFL f fd) (Z : Blt mg) (zA : mg "all" = none) (N : NodeI K C) (mN : mg "Node" = some (.ref C)) (nt : PySem.W.kitOne K (.type "NoneType") (.ref C) = some false) : FnOk P w K mg base CX0 1 f fd ["made"] (spFL K C) := by
  refine F.ok scFL (fun vs H Q E h => ?_) (fun cdv A outer s H vs Q E hr h => ?_)
  · obtain ⟨v, r, rfl, _⟩ := h
    rfl
  obtain ⟨v, r, rfl, hv, q⟩ := h
  have isiK : ∀ X : Cx, X.K = K → CallR X (.builtin "isinstance") (rIsi K) := fun X e => e ▸ call_isi
  refine ⟨_, (C8.pss_cut (ps_if (pt_val (pe_callB call_isi (by rfl) Z.isI (by decide +kernel) (pa_cons (pv 0) (pa_cons (pe_bltn (v := .ty "list") (by rfl) Z.ls (by decide +kernel) rfl) pa_nil)))) (pss_one (ps_ret (pe_callB (cr_all rfl) (by rfl) zA (by decide +kernel) (pa_cons (pe_lc (own := [("item", 1)]) (g := gName 1) (tt := tYes) rfl scFL.nd (pi_list (pv 0)) (blkOk_by (own := [("item", 1)]) (N := ["made", "item"]) (sc := (defScope sFL)) (by decide +kernel)) (fun _ _ _ _ _ => (pg_name (i := 1) scFL.nd rfl (.inl rfl))) (fun _ _ _ _ _ => pts_nil) (fun _ _ _ _ _ => (pe_callB (isiK _ rfl) (by rfl) Z.isI (by decide +kernel) (pa_cons (pv 1) (pa_cons (pe_glob (v := .ref C) rfl mN rfl) pa_nil))))) pa_nil)))) pss_nil)
    (pss_one (ps_ret (pe_or (pe_cmpR op_isN (pv 0) pe_non (nomark _)) (pe_one (pe_callB call_isi (by rfl) Z.isI (by decide +kernel) (pa_cons (pv 0) (pa_cons (pe_glob (v := .ref C) rfl mN rfl) pa_nil)))))))), ?_⟩
  have kn : PySem.W.kitOne K (.type "NoneType") (.type "list") = some false := kit_ty (by decide +kernel)
  -- a list, item by item
  have lists : ∀ (l : Addr) (xs : List V) (bs : List Bool), v = .ref l → H l = some (.lst xs) → TyNs K C H xs bs → xs.length ≤ 10 → bs.all id = okL r → ∀ (R : L2.St → Hp → Prop) (ct bk : L2.St → Hp → Prop),
      tRet (tCB (rAll K) (tCons (tLc (iList K (tVar 0)) (gName 1) tYes (tCB (rIsi K) (tCons (tVar 1) (tCons (tC (.ref C)) tNil))) [1]) tNil)) { nx := R, ct := ct, bk := bk, rt := Q } [some v, none] H := fun l xs bs e hl a le eb R ct bk => by
    subst e
    refine ⟨_, rfl, l, rfl, ⟨_, SqL.of hl⟩, fun D nD => ?_⟩
    refine lc_list (K := K) (a := l) (xs := xs) (fun i H3 => Same H H3 ∧ H3 D = some (.lst ((bs.take i).map V.bl))) ⟨same_new nD, upd_same⟩ (fun i H3 _ ⟨s, _⟩ => SqL.of (s _ _ hl)) ?_ ?_
    · rintro i x H3 hx ⟨s3, h3⟩
      have hi := (List.getElem?_eq_some_iff.mp hx).1
      have a1 := a.1
      obtain ⟨b, hb⟩ : ∃ b, bs[i]? = some b := ⟨_, List.getElem?_eq_getElem (by omega)⟩
      obtain ⟨t, t1, t2⟩ := (a.2 i x b hx hb).up s3
      refine ⟨rfl, ?_⟩
      unfold tYes
      refine iteT ?_
      refine ⟨_, rfl, x, .ref C, _, _, _, rfl, .own _, t1, t2, _, h3, ?_, fun c o e => ?_, ?_⟩
      · have zS : (1000 : Nat) ≤ sizeLine := by decide
        rw [List.length_map, List.length_take]
        omega
      · rw [upd_ne (ne_of_none e nD)]
        exact s3 _ _ e
      · rw [upd_same, List.take_succ, hb, List.map_append]
        rfl
    · rintro H3 ⟨s3, h3⟩
      rw [show xs.length = bs.length from a.1, List.take_length] at h3
      refine ⟨D, _, rfl, SqL.of h3, ?_⟩
      rw [eb]
      exact q H3 s3
  refine ⟨fun σ H1 => σ = [some v, none] ∧ H = H1 ∧ ((∃ t, TyX K H v t ∧ PySem.W.kitOne K t (.ref C) = some (okL r)) ∧ v ≠ .non ∨ v = .non ∧ okL r = true), ?_, ?_⟩
  · refine ⟨_, rfl, ?_⟩
    cases r with
    | bd =>
      obtain ⟨t, t1, t2, t3, t4⟩ := hv
      exact ⟨v, .ty "list", _, _, _, rfl, .ty _, t1, t3, _, rfl, iteF ⟨rfl, rfl, .inl ⟨⟨t, t1, t2⟩, t4⟩⟩⟩
    | bl =>
      obtain ⟨l, xs, bs, e, hl, a, eb, le⟩ := hv
      exact ⟨v, .ty "list", _, _, _, rfl, .ty _, by rw [e]; exact .base (.lst hl), lst_in, _, rfl, iteT (lists l xs bs e hl a le eb _ _ _)⟩
    | nn =>
      have hv : v = .non := hv
      exact ⟨v, .ty "list", _, _, _, rfl, .ty _, by rw [hv]; exact .base .non, kn, _, rfl, iteF ⟨rfl, rfl, .inr ⟨hv, rfl⟩⟩⟩
    | gl =>
      obtain ⟨l, xs, e, hl, a, le⟩ := hv
      refine ⟨v, .ty "list", _, _, _, rfl, .ty _, by rw [e]; exact .base (.lst hl), lst_in, _, rfl, iteT (lists l xs (List.replicate xs.length true) e hl ⟨by rw [List.length_replicate], fun i x b e1 e2 => ?_⟩ le (by simp [okL]) _ _ _)⟩
      have hb : b = true := (List.mem_replicate.mp (List.mem_of_getElem? e2)).2
      rw [hb]
      exact ⟨_, (a x (List.mem_of_getElem? e1)).ty N, N.sf⟩
    | nd =>
      have hv : NodeV C H v := hv
      have t1 := hv.ty N
      obtain ⟨p, dx, fs, e, _⟩ := hv
      exact ⟨v, .ty "list", _, _, _, rfl, .ty _, t1, N.nl, _, rfl, iteF ⟨rfl, rfl, .inl ⟨⟨_, t1, N.sf⟩, by rw [e]; exact fun z => by cases z⟩⟩⟩
  rintro σ H1 ⟨rfl, rfl, hk⟩
  refine ⟨_, rfl, rfl, _, rfl, ?_⟩
  rcases hk with ⟨⟨t, t1, t2⟩, n⟩ | ⟨e, ek⟩
  · rw [decide_eq_false n]
    refine iteF ?_
    exact ⟨_, rfl, v, .ref C, _, _, _, rfl, .own _, t1, t2, q H (Same.refl H)⟩
  · rw [decide_eq_true e]
    refine iteT ?_
    have z := q H (Same.refl H)
    rw [ek] at z
    exact z
theorem ok_ai {f : Addr} {fd : FuncData} (F : Fun K "_as_items" "_as_items" sAI f fd) (Z : Blt mg) (N : NodeI K C) : FnOk P w K mg base CX0 1 f fd ["made"] (spAI K C) := by
  refine F.ok scAI (fun vs H Q E h => ?_) (fun cdv A outer s H vs Q E hr h => ?_)
  · obtain ⟨v, r, rfl, _⟩ := h
    rfl
  obtain ⟨v, r, rfl, hv, hr', q⟩ := h
  refine ⟨_, (C8.pss_cut (ps_if (pt_cmpR op_isN (pv 0) pe_non (nomark _)) (pss_one (ps_ret (pe_lst pa_nil))) pss_nil)
    (pss_one (ps_ret (pe_ifExp (pt_val (pe_callB call_isi (by rfl) Z.isI (by decide +kernel) (pa_cons (pv 0) (pa_cons (pe_bltn (v := .ty "list") (by rfl) Z.ls (by decide +kernel) rfl) pa_nil)))) (pv 0) (pe_lst (pa_cons (pv 0) pa_nil)))))), ?_⟩
  have nil : ∀ l, H l = none → Q (.ref l) (upd H l (.lst [])) := fun l nl => q _ l [] (same_new nl) upd_same (by simp)
  have one : ∀ l, H l = none → Q (.ref l) (upd H l (.lst [v])) := fun l nl => q _ l [v] (same_new nl) upd_same (by simp)
  refine ⟨fun σ H1 => σ = [some v] ∧ H = H1 ∧ v ≠ .non, ?_, ?_⟩
  · refine ⟨_, rfl, rfl, _, rfl, ?_⟩
    by_cases e : v = .non
    · rw [decide_eq_true e]
      exact iteT ⟨by show 0 ≤ sizeLine; decide, nil⟩
    · rw [decide_eq_false e]
      exact iteF ⟨rfl, rfl, e⟩
  rintro σ H1 ⟨rfl, rfl, ne⟩
  refine ⟨_, rfl, ?_⟩
  cases r with
  | bd => cases hr'
  | bl => cases hr'
  | nn => exact absurd hv ne
  | gl =>
    obtain ⟨l, xs, e, hl, a, le⟩ := hv
    refine ⟨v, .ty "list", _, _, _, rfl, .ty _, by rw [e]; exact .base (.lst hl), lst_in, _, rfl, iteT ⟨_, rfl, ?_⟩⟩
    rw [e]
    exact q H l xs (Same.refl H) hl le
  | nd =>
    have hv : NodeV C H v := hv
    exact ⟨v, .ty "list", _, _, _, rfl, .ty _, hv.ty N, N.nl, _, rfl, iteF ⟨_, rfl, by show 1 ≤ sizeLine; decide, one⟩⟩
end
end Q8

namespace Q8
open PySem PySem.Spec PyProof.Rows L2 StX TL RZ
/-! ### what the law's handlers hand back -/
theorem passRow : Fld.lookup ("Pass" : Str) = some [] := by decide +kernel
abbrev sRt : Stmt := topS 46
theorem scRt : FnScope ["_law_node_here", "_law_way", "_law_some"] ["_law_node_here", "_law_way"] (defScope sRt) := ⟨rfl, rfl, rfl, by decide +kernel, rfl, by decide +kernel, by decide +kernel⟩
def spRt (K : PySem.W.Frag) (C : Addr) : Sp := fun vs H Q _ => ∃ (p dx : Addr) (fs : List (Str × V)) (kd : Str) (w : Nat), vs = [.ref p, .int (w : Int)] ∧ H p = some (.ins C dx fs) ∧ fs.lookup ("kind" : Str) = some (.str kd) ∧ w < 19 ∧ ∀ H' v, Same H H' → ResV K C H' v (rkOf w) → Q v H'
section
variable {P : Program} {w : World} {K : PySem.W.Frag} {mg : Str → Option Value} {base : Heap} {C : Addr} {Cs fI : Nat → Addr} {fdI : Nat → FuncData}
theorem ok_rt {f fN : Addr} {fd : FuncData} (F : Fun K "_law_return" "_law_return" sRt f fd) (Z : Blt mg) (W : ValI K C Cs) (Ni : NodeI K C) (Nf : NodeF K C) (M : Mks P w K mg base Cs fI fdI) (MK : Mk K C fN) (mN : mg "Node" = some (.ref C)) (NI : FnR P w K mg base CX0 5 fN (spIni 1 C)) : FnOk P w K mg base CX0 7 f fd ["_law_node_here", "_law_way"] (spRt K C) := by
  refine F.ok scRt (fun vs H Q E h => ?_) (fun cdv A outer s H vs Q E hr h => ?_)
  · obtain ⟨p, dx, fs, kd, w, rfl, _⟩ := h
    rfl
  obtain ⟨p, dx, fs, kd, w, rfl, hp, hk, hw19, q⟩ := h
  refine ⟨_, (pss_cons (ps_set (i := 2) scRt.nd rfl (.inl rfl) (pe_lst (pa_cons pe_int (pa_cons pe_str (pa_cons pe_bl (pa_cons (pe_tup (pa_cons (pv 0) pa_nil)) (pa_cons (pe_disp (pps_cons pe_str (pv 0) pps_nil) (by rfl) (by rfl) (fun z => by cases z) (by decide)) (pa_cons (pe_lst (pa_cons (pv 0) (pa_cons pe_non pa_nil))) (pa_cons (pe_lst (pa_cons (pv 0) (pa_cons pe_str pa_nil))) (pa_cons (pe_lst (pa_cons (pe_lst (pa_cons (pv 0) pa_nil)) pa_nil)) (pa_cons (pe_fld (pv 0) rfl) (pa_cons pe_int (pa_cons pe_str (pa_cons (pe_tup pa_nil) pa_nil))))))))))))))
    (pss_cons (ps_set (i := 2) scRt.nd rfl (.inl rfl) (pe_op op_cat (pv 2) (pe_lst (pa_cons (pe_makeE M.mk0 M.i0 M.o0 M.k0 rfl M.g0) (pa_cons (pe_tup pa_nil) (pa_cons pe_non (pa_cons (pe_lst pa_nil) (pa_cons (pe_lst (pa_cons (pv 0) pa_nil)) (pa_cons (pe_lst (pa_cons (pv 0) (pa_cons (pe_node MK NI hr rfl mN (pa_cons pe_str pa_nil)) pa_nil))) (pa_cons (pv 0) pa_nil))))))))))
    (pss_one (ps_ret (pe_ix ix_list (pv 2) (pv 1) (fun _ _ => rfl)))))), ?_⟩
  refine ⟨_, rfl, by show 1 ≤ sizeLine; decide, fun t1 n_t1 => ?_⟩
  have s_t1 := same_new (o := .tup [.ref p]) n_t1
  have u_t1 : (upd H t1 (.tup [.ref p])) t1 = some (.tup [.ref p]) := upd_same
  generalize upd H t1 (.tup [.ref p]) = G1 at s_t1 u_t1 ⊢
  refine fun d2 n_d2 => ⟨_, rfl, upd_same, [(.inr "a", .ref p)], rfl, by show 1 ≤ 15; decide, ?_⟩
  have s_d2 : Same G1 (upd (upd G1 d2 (.dK [])) d2 (.dK (mergeK [] [((.inr "a" : Key), V.ref p)]))) := fun b o e => by
    rw [upd_ne (ne_of_none e n_d2), upd_ne (ne_of_none e n_d2)]; exact e
  have u_d2 : (upd (upd G1 d2 (.dK [])) d2 (.dK (mergeK [] [((.inr "a" : Key), V.ref p)]))) d2 = some (.dK (mergeK [] [((.inr "a" : Key), V.ref p)])) := upd_same
  generalize upd (upd G1 d2 (.dK [])) d2 (.dK (mergeK [] [((.inr "a" : Key), V.ref p)])) = G2 at s_d2 u_d2 ⊢
  refine ⟨_, rfl, by show 2 ≤ sizeLine; decide, fun l3 n_l3 => ?_⟩
  have s_l3 := same_new (o := .lst [.ref p, .non]) n_l3
  have u_l3 : (upd G2 l3 (.lst [.ref p, .non])) l3 = some (.lst [.ref p, .non]) := upd_same
  generalize upd G2 l3 (.lst [.ref p, .non]) = G3 at s_l3 u_l3 ⊢
  refine ⟨_, rfl, by show 2 ≤ sizeLine; decide, fun l4 n_l4 => ?_⟩
  have s_l4 := same_new (o := .lst [.ref p, .str "a"]) n_l4
  have u_l4 : (upd G3 l4 (.lst [.ref p, .str "a"])) l4 = some (.lst [.ref p, .str "a"]) := upd_same
  generalize upd G3 l4 (.lst [.ref p, .str "a"]) = G4 at s_l4 u_l4 ⊢
  refine ⟨_, rfl, by show 1 ≤ sizeLine; decide, fun l5 n_l5 => ?_⟩
  have s_l5 := same_new (o := .lst [.ref p]) n_l5
  have u_l5 : (upd G4 l5 (.lst [.ref p])) l5 = some (.lst [.ref p]) := upd_same
  generalize upd G4 l5 (.lst [.ref p]) = G5 at s_l5 u_l5 ⊢
  refine ⟨by show 1 ≤ sizeLine; decide, fun l6 n_l6 => ?_⟩
  have s_l6 := same_new (o := .lst [.ref l5]) n_l6
  have u_l6 : (upd G5 l6 (.lst [.ref l5])) l6 = some (.lst [.ref l5]) := upd_same
  generalize upd G5 l6 (.lst [.ref l5]) = G6 at s_l6 u_l6 ⊢
  refine ⟨_, rfl, p, C, dx, fs, .str kd, rfl, s_l6 _ _ (s_l5 _ _ (s_l4 _ _ (s_l3 _ _ (s_d2 _ _ (s_t1 _ _ hp))))), Nf.cl, Nf.n1, hk, ?_⟩
  refine ⟨by show 0 ≤ sizeLine; decide, fun t7 n_t7 => ?_⟩
  have s_t7 := same_new (o := .tup []) n_t7
  have u_t7 : (upd G6 t7 (.tup [])) t7 = some (.tup []) := upd_same
  generalize upd G6 t7 (.tup []) = G7 at s_t7 u_t7 ⊢
  refine ⟨by show 12 ≤ sizeLine; decide, fun L8 n_L8 => ?_⟩
  have s_L8 := same_new (o := .lst [.int 5, .str "a", .bl true, .ref t1, .ref d2, .ref l3, .ref l4, .ref l6, .str kd, .int 0, .str "", .ref t7]) n_L8
  have u_L8 : (upd G7 L8 (.lst [.int 5, .str "a", .bl true, .ref t1, .ref d2, .ref l3, .ref l4, .ref l6, .str kd, .int 0, .str "", .ref t7])) L8 = some (.lst [.int 5, .str "a", .bl true, .ref t1, .ref d2, .ref l3, .ref l4, .ref l6, .str kd, .int 0, .str "", .ref t7]) := upd_same
  generalize upd G7 L8 (.lst [.int 5, .str "a", .bl true, .ref t1, .ref d2, .ref l3, .ref l4, .ref l6, .str kd, .int 0, .str "", .ref t7]) = G8 at s_L8 u_L8 ⊢
  refine ⟨_, rfl, ?_⟩
  refine fun x9 d9 n_x9 n_d9 ne9 => ?_
  have s_x9 : Same G8 (upd (upd G8 d9 (.own x9)) x9 (.ins (Cs 0) d9 [])) := made_same0 n_x9 n_d9
  have u_x9 : (upd (upd G8 d9 (.own x9)) x9 (.ins (Cs 0) d9 [])) x9 = some (.ins (Cs 0) d9 []) := upd_same
  generalize upd (upd G8 d9 (.own x9)) x9 (.ins (Cs 0) d9 []) = G9 at s_x9 u_x9 ⊢
  refine ⟨by show 0 ≤ sizeLine; decide, fun t10 n_t10 => ?_⟩
  have s_t10 := same_new (o := .tup []) n_t10
  have u_t10 : (upd G9 t10 (.tup [])) t10 = some (.tup []) := upd_same
  generalize upd G9 t10 (.tup []) = G10 at s_t10 u_t10 ⊢
  refine ⟨by show 0 ≤ sizeLine; decide, fun l11 n_l11 => ?_⟩
  have s_l11 := same_new (o := .lst []) n_l11
  have u_l11 : (upd G10 l11 (.lst [])) l11 = some (.lst []) := upd_same
  generalize upd G10 l11 (.lst []) = G11 at s_l11 u_l11 ⊢
  refine ⟨_, rfl, by show 1 ≤ sizeLine; decide, fun l12 n_l12 => ?_⟩
  have s_l12 := same_new (o := .lst [.ref p]) n_l12
  have u_l12 : (upd G11 l12 (.lst [.ref p])) l12 = some (.lst [.ref p]) := upd_same
  generalize upd G11 l12 (.lst [.ref p]) = G12 at s_l12 u_l12 ⊢
  refine ⟨_, rfl, "Pass", [], [], rfl, passRow, Nat.zero_le _, .inl rfl, fun G13 q13 dq ds N => ?_⟩
  have s_q13 : Same G12 G13 := N.sm
  obtain ⟨dxq, u_q13⟩ := N.at_
  refine ⟨by show 2 ≤ sizeLine; decide, fun l14 n_l14 => ?_⟩
  have s_l14 := same_new (o := .lst [.ref p, .ref q13]) n_l14
  have u_l14 : (upd G13 l14 (.lst [.ref p, .ref q13])) l14 = some (.lst [.ref p, .ref q13]) := upd_same
  generalize upd G13 l14 (.lst [.ref p, .ref q13]) = G14 at s_l14 u_l14 ⊢
  refine ⟨_, rfl, ?_⟩
  refine ⟨by show 7 ≤ sizeLine; decide, fun L15 n_L15 => ?_⟩
  have s_L15 := same_new (o := .lst [.ref x9, .ref t10, .non, .ref l11, .ref l12, .ref l14, .ref p]) n_L15
  have u_L15 : (upd G14 L15 (.lst [.ref x9, .ref t10, .non, .ref l11, .ref l12, .ref l14, .ref p])) L15 = some (.lst [.ref x9, .ref t10, .non, .ref l11, .ref l12, .ref l14, .ref p]) := upd_same
  generalize upd G14 L15 (.lst [.ref x9, .ref t10, .non, .ref l11, .ref l12, .ref l14, .ref p]) = G15 at s_L15 u_L15 ⊢
  have s_8 : ∀ b o, G8 b = some o → G15 b = some o := fun b o e => s_L15 _ _ (s_l14 _ _ (s_q13 _ _ (s_l12 _ _ (s_l11 _ _ (s_t10 _ _ (s_x9 _ _ e))))))
  refine ⟨L8, L15, _, _, rfl, rfl, s_8 _ _ u_L8, u_L15, by show 12 + 7 ≤ sizeLine; decide, fun R nR => ?_⟩
  have s_R := same_new (o := .lst ([.int 5, .str "a", .bl true, .ref t1, .ref d2, .ref l3, .ref l4, .ref l6, .str kd, .int 0, .str "", .ref t7] ++ [.ref x9, .ref t10, .non, .ref l11, .ref l12, .ref l14, .ref p])) nR
  have u_R : (upd G15 R (.lst ([.int 5, .str "a", .bl true, .ref t1, .ref d2, .ref l3, .ref l4, .ref l6, .str kd, .int 0, .str "", .ref t7] ++ [.ref x9, .ref t10, .non, .ref l11, .ref l12, .ref l14, .ref p]))) R = some (.lst ([.int 5, .str "a", .bl true, .ref t1, .ref d2, .ref l3, .ref l4, .ref l6, .str kd, .int 0, .str "", .ref t7] ++ [.ref x9, .ref t10, .non, .ref l11, .ref l12, .ref l14, .ref p])) := upd_same
  generalize upd G15 R (.lst ([.int 5, .str "a", .bl true, .ref t1, .ref d2, .ref l3, .ref l4, .ref l6, .str kd, .int 0, .str "", .ref t7] ++ [.ref x9, .ref t10, .non, .ref l11, .ref l12, .ref l14, .ref p])) = G16 at s_R u_R ⊢
  have up : ∀ b o, G8 b = some o → G16 b = some o := fun b o e => s_R _ _ (s_8 b o e)
  have up0 : Same H G16 := fun b o e => up _ _ (s_L8 _ _ (s_t7 _ _ (s_l6 _ _ (s_l5 _ _ (s_l4 _ _ (s_l3 _ _ (s_d2 _ _ (s_t1 _ _ e))))))))
  have hw : w < ([.int 5, .str "a", .bl true, .ref t1, .ref d2, .ref l3, .ref l4, .ref l6, .str kd, .int 0, .str "", .ref t7] ++ [.ref x9, .ref t10, .non, .ref l11, .ref l12, .ref l14, .ref p] : List V).length := hw19
  refine ⟨_, rfl, _, rfl, R, _, _, _, rfl, rfl, SqL.of u_R, atI_nat (List.getElem?_eq_getElem hw), q _ _ up0 ?_⟩
  have a3 := up _ _ (s_L8 _ _ (s_t7 _ _ (s_l6 _ _ (s_l5 _ _ (s_l4 _ _ u_l3)))))
  have a4 := up _ _ (s_L8 _ _ (s_t7 _ _ (s_l6 _ _ (s_l5 _ _ u_l4))))
  have a5 := up _ _ (s_L8 _ _ (s_t7 _ _ (s_l6 _ _ u_l5)))
  have a6 := up _ _ (s_L8 _ _ (s_t7 _ _ u_l6))
  have a1 := up _ _ (s_L8 _ _ (s_t7 _ _ (s_l6 _ _ (s_l5 _ _ (s_l4 _ _ (s_l3 _ _ (s_d2 _ _ u_t1)))))))
  have a2 := up _ _ (s_L8 _ _ (s_t7 _ _ (s_l6 _ _ (s_l5 _ _ (s_l4 _ _ (s_l3 _ _ u_d2))))))
  have a7 := up _ _ (s_L8 _ _ u_t7)
  have a9 := s_R _ _ (s_L15 _ _ (s_l14 _ _ (s_q13 _ _ (s_l12 _ _ (s_l11 _ _ (s_t10 _ _ u_x9))))))
  have a10 := s_R _ _ (s_L15 _ _ (s_l14 _ _ (s_q13 _ _ (s_l12 _ _ (s_l11 _ _ u_t10)))))
  have a11 := s_R _ _ (s_L15 _ _ (s_l14 _ _ (s_q13 _ _ (s_l12 _ _ u_l11))))
  have a12 := s_R _ _ (s_L15 _ _ (s_l14 _ _ (s_q13 _ _ u_l12)))
  have a13 := s_R _ _ (s_L15 _ _ (s_l14 _ _ u_q13))
  have a14 := s_R _ _ (s_L15 _ _ u_l14)
  have ap : NodeV C G16 (.ref p) := ⟨p, dx, fs, rfl, up0 _ _ hp, kd, hk⟩
  have tp : TyN K C G16 (.ref p) true := ⟨_, ap.ty Ni, Ni.sf⟩
  have bd : ∀ v, (∃ t, TyX K G16 v t ∧ PySem.W.kitOne K t (.ref C) = some false ∧ PySem.W.kitOne K t (.type "list") = some false) → v ≠ .non → ResV K C G16 v .bd := fun v ⟨t, h1, h2, h3⟩ n => ⟨t, h1, h2, h3, n⟩
  have two : ∀ (x y : V) (b : Bool), TyN K C G16 x true → TyN K C G16 y b → TyNs K C G16 [x, y] [true, b] := fun x y b h1 h2 => ⟨rfl, fun i u c e1 e2 => by
    rcases i with _ | _ | i
    · cases e1; cases e2; exact h1
    · cases e1; cases e2; exact h2
    · simp at e1⟩
  have kT : ∀ {s t : String} {b : Bool}, PySem.W.kitOne K (.type s) (.type t) = some b → PySem.W.kitOne K (.type s) (.type t) = some b := id
  rcases w with _ | _ | _ | _ | _ | _ | _ | _ | _ | _ | _ | _ | _ | _ | _ | _ | _ | _ | _ | w
  · exact bd _ ⟨_, .base (.int 5), W.nt _ (by simp), kit_ty (by decide +kernel)⟩ (fun z => by cases z)
  · exact bd _ ⟨_, .base (.str _), W.nt _ (by simp), kit_ty (by decide +kernel)⟩ (fun z => by cases z)
  · exact bd _ ⟨_, .base (.bl _), W.nt _ (by simp), kit_ty (by decide +kernel)⟩ (fun z => by cases z)
  · exact bd _ ⟨_, .base (.tup a1), W.nt _ (by simp), kit_ty (by decide +kernel)⟩ (fun z => by cases z)
  · exact bd _ ⟨_, .base (.dK a2), W.nt _ (by simp), kit_ty (by decide +kernel)⟩ (fun z => by cases z)
  · exact ⟨l3, _, [true, false], rfl, a3, two _ _ _ tp ⟨_, .base .non, W.nt _ (by simp)⟩, rfl, by simp⟩
  · exact ⟨l4, _, [true, false], rfl, a4, two _ _ _ tp ⟨_, .base (.str _), W.nt _ (by simp)⟩, rfl, by simp⟩
  · exact ⟨l6, _, [false], rfl, a6, ⟨rfl, fun i u c e1 e2 => by
      rcases i with _ | i
      · cases e1; cases e2; exact ⟨_, .base (.lst a5), W.nt _ (by simp)⟩
      · simp at e1⟩, rfl, by simp⟩
  · exact bd _ ⟨_, .base (.str _), W.nt _ (by simp), kit_ty (by decide +kernel)⟩ (fun z => by cases z)
  · exact bd _ ⟨_, .base (.int 0), W.nt _ (by simp), kit_ty (by decide +kernel)⟩ (fun z => by cases z)
  · exact bd _ ⟨_, .base (.str _), W.nt _ (by simp), kit_ty (by decide +kernel)⟩ (fun z => by cases z)
  · exact bd _ ⟨_, .base (.tup a7), W.nt _ (by simp), kit_ty (by decide +kernel)⟩ (fun z => by cases z)
  · exact bd _ ⟨_, .base (.ins a9 (W.cl 0 (by decide)) (W.ha 0 (by decide)) W.hn W.ht (W.hm 0 (by decide))), W.kn 0 (by decide), W.kt 0 (by decide) _ (by simp [seqTs])⟩ (fun z => by cases z)
  · exact bd _ ⟨_, .base (.tup a10), W.nt _ (by simp), kit_ty (by decide +kernel)⟩ (fun z => by cases z)
  · exact (rfl : (V.non : V) = .non)
  · exact ⟨l11, [], rfl, a11, fun x hx => (by cases hx), by simp⟩
  · exact ⟨l12, _, rfl, a12, fun x hx => (by rw [List.mem_singleton.mp hx]; exact ap), by simp⟩
  · exact ⟨l14, _, rfl, a14, fun x hx => (by
      rcases List.mem_cons.mp hx with rfl | hx
      · exact ap
      · rw [List.mem_singleton.mp hx]; exact ⟨q13, dxq, _, rfl, a13, "Pass", rfl⟩), by simp⟩
  · exact ap
  · omega
end
end Q8

namespace Q8
open PySem PySem.Spec PyProof.Rows L2 StX LamX NdefX
/-! ### a lambda that is kept: made by a def that has ended, called elsewhere -/
abbrev lamFd (F : NF) (body : Expr) (pm ctv : Value) : FuncData := PySem.W.kla_fn F.name F.qual F.params body F.scope F.cl pm (.ref F.c) ctv
/-- the object at f is the lambda -/
def LamO (f : Addr) (F : NF) (body : Expr) : HO := .ext fun h => ∃ (od : Option Addr) (sl : Array (Option Value)) (pm ctv : Value), h.get? f = some (⟨.type "function", od, .func (lamFd F body pm ctv), sl⟩ : Obj)
/-- the cell at c holds v -/
def CellO (c : Addr) (v : V) : HO := .ext fun h => ∃ u, RelV v u ∧ h.IsCell c (some u)
structure LamAt (H : Hp) (f : Addr) (F : NF) (body : Expr) (fr : List Str) (ws : List V) : Prop where
  fn : H f = some (LamO f F body)
  co : H F.c = some (CodeO F.c F.qual)
  len : ws.length = fr.length
  all : ∀ y c, F.cl.lookup y = some c → ∃ v, H c = some (CellO c v)
  has : ∀ (i : Nat) (y : Str), fr[i]? = some y → ∃ c, F.cl.lookup y = some c ∧ ∀ v, ws[i]? = some v → H c = some (CellO c v)
  inj : ∀ x y c, F.cl.lookup x = some c → F.cl.lookup y = some c → x = y
theorem LamAt.up {H H' : Hp} {f : Addr} {F : NF} {body : Expr} {fr : List Str} {ws : List V} (h : LamAt H f F body fr ws) (k : ∀ b φ, H b = some (.ext φ) → H' b = some (.ext φ)) : LamAt H' f F body fr ws :=
  ⟨k _ _ h.fn, k _ _ h.co, h.len, fun y c e => by obtain ⟨v, hv⟩ := h.all y c e; exact ⟨v, k _ _ hv⟩, fun i y e => by obtain ⟨c, hc, hv⟩ := h.has i y e; exact ⟨c, hc, fun v ev => k _ _ (hv v ev)⟩, h.inj⟩
def cellsOf (F : NF) : Addr → Prop := fun b => ∃ y, F.cl.lookup y = some b
/-- H without the lambda's cells -/
noncomputable def und (F : NF) (H : Hp) : Hp := fun b => open Classical in if cellsOf F b then none else H b
/-- H' with the cells as in H -/
noncomputable def red (F : NF) (H H' : Hp) : Hp := fun b => open Classical in if cellsOf F b then H b else H' b
section
variable {F : NF} {H H' : Hp} {b : Addr} {o : HO}
theorem und_in (n : ¬ cellsOf F b) : und F H b = H b := by unfold und; rw [if_neg n]
theorem und_no (n : cellsOf F b) : und F H b = none := by unfold und; rw [if_pos n]
theorem red_in (n : ¬ cellsOf F b) : red F H H' b = H' b := by unfold red; rw [if_neg n]
theorem red_no (n : cellsOf F b) : red F H H' b = H b := by unfold red; rw [if_pos n]
theorem und_at (h : und F H b = some o) : ¬ cellsOf F b ∧ H b = some o := by
  by_cases n : cellsOf F b
  · rw [und_no n] at h; cases h
  · rw [und_in n] at h; exact ⟨n, h⟩
end
section
variable {P : Program} {w : World} {K : PySem.W.Frag} {mg : Str → Option Value} {base : Heap} {N ps fr : List Str} {F : NF} {body : Expr} {f : Addr} {k : Nat}
/-- THE RULE: a call of a kept lambda, by its body; the body's reading is over the heap without the cells -/
theorem lam_run (S : NScope N ps fr F.scope) (hb : ∀ (pm ctv : Value) (us : List Value), us.length = ps.length → bindArgs (lamFd F body pm ctv) ⟨us, []⟩ = pure (ps.zip us))
    {A : Around} {outer : List Env} {s : Shared} {H : Hp} {us : List Value} {vs : List V} {ws : List V} {Q : VK} (hr : Room (k + 1) A) (e0 : Env0 P w K mg base A outer s H) (L : LamAt H f F body fr ws) (r : Vals vs us) (hl : vs.length = ps.length)
    (hbody : Room k (A.deeper (envF F f s.heap.objs.size)) → ∃ t, PE (ncx CX0 P w K mg base N F f A outer s (und F H) fun _ _ _ => False) body t ∧ t (startF N vs (ws.map some)) (und F H) (fun v H' => (∀ c, cellsOf F c → H' c = none) → Q v (red F H H'))) :
    codeAny (model P w) A (.call (.ref f) ⟨us, []⟩) (CR CX0 outer P w H s Q (fun _ _ _ => False)) s := by
  have lim : s.heap.NoLimit := e0.mod.nolimit.keeps fun b o e => (e0.bs b o e).1
  have cell : ∀ c, cellsOf F c → ∃ v, H c = some (CellO c v) := fun c ⟨y, e⟩ => L.all y c e
  have nown : ∀ b a, H b = some (.own a) → ¬ cellsOf F b := fun b a e z => by
    obtain ⟨v, hv⟩ := cell b z
    rw [e] at hv; cases hv
  have ntup : ∀ b xs, H b = some (.tup xs) → ¬ cellsOf F b := fun b a e z => by
    obtain ⟨v, hv⟩ := cell b z
    rw [e] at hv; cases hv
  have hok0 : HOk P w (und F H) s.heap := fun b o e => by
    obtain ⟨n, e⟩ := und_at e
    exact (e0.hok b o e).stay (fun _ _ _ q => q) (fun c q => by rw [und_in (nown c b q)]; exact q) fun c xs q => by rw [und_in (ntup c xs q)]; exact q
  have un0 : ∀ b, H b = none → und F H b = none := fun b n => by
    by_cases z : cellsOf F b
    · exact und_no z
    · rw [und_in z]; exact n
  have e1 : Env0 P w K mg base A outer s (und F H) := { frames := e0.frames, mod := e0.mod, bs := fun b o e => ⟨(e0.bs b o e).1, un0 b (e0.bs b o e).2⟩, bsz := e0.bsz, funs := e0.funs, frf := fun b hb => un0 b (e0.frf b hb), hok := hok0, bare := e0.bare }
  have isc : ∀ c v, H c = some (CellO c v) → ∃ u, RelV v u ∧ s.heap.IsCell c (some u) := fun c v e => (e0.hok c _ e).1
  have C : CellsAt F.cl fr (ws.map some) s.heap (und F H) := by
    refine ⟨by rw [List.length_map]; exact L.len, fun y c e => ⟨und_no ⟨y, e⟩, ?_⟩, L.inj, fun i y e => ?_⟩
    · obtain ⟨v, hv⟩ := L.all y c e
      obtain ⟨u, _, h2⟩ := isc c v hv
      exact ⟨some u, h2⟩
    · obtain ⟨c, hc, hv⟩ := L.has i y e
      refine ⟨c, hc, fun v ev => ?_⟩
      rw [List.getElem?_map] at ev
      have ev : ws[i]? = some v := by
        cases z : ws[i]? with
        | none => rw [z] at ev; cases ev
        | some x => rw [z] at ev; cases ev; rfl
      exact isc c v (hv v ev)
  obtain ⟨⟨od, sl, pm, ctv, ho⟩, _, _⟩ := e0.hok f _ L.fn
  refine PySem.W.kla_callFunE hr.depth ho rfl S.co S.gen rfl (codeO_at e0.hok L.co) ?_
  have ebind := hb pm ctv us (by rw [← r.length]; exact hl)
  rw [ebind]
  refine wpAny_pure (wpAny_newFunctionEnv S.nocell (fun ⟨n, _⟩ hy => S.par n (List.of_mem_zip hy).1) (fun h₁ hns hsb => ⟨lim.fresh _ hsb, ?_⟩) S.kind)
  show codeAny _ _ (.expr body (envF F f s.heap.objs.size)) _ _
  refine PySem.W.kla_codeExpr ?_
  have kp : ∀ b o, s.heap.get? b = some o → h₁.get? b = some o := fun b o e => hsb.extBut b o (Nat.ne_of_lt (Heap.lt_size e)) (Heap.get?_push_of_some _ e)
  obtain ⟨t, ht, hq⟩ := hbody (hr.deeper _)
  have I : Inv (ncx CX0 P w K mg base N F f A outer s (und F H) fun _ _ _ => False) [] (startF N vs (ws.map some)) (und F H) { s with heap := h₁, toks := s.toks + (ps.zip us).length } := inv_startN S hr.hd e1 hl r C hns kp
  refine wpAny_mono (ht.run [] _ (startF N vs (ws.map some)) (und F H) _ I hq) (fun u s' hs => ?_) fun e s' hs => hs
  obtain ⟨v, H', J, rv, q⟩ := hs
  have un : Un (frs outer) [] (und F H) H' s.heap s'.heap := J.base
  have cn : ∀ c, cellsOf F c → H' c = none := fun c hc => by
    obtain ⟨v, hv⟩ := cell c hc
    obtain ⟨u, _, o, h2, _⟩ := isc c v hv
    exact un.free c o h2 (und_no hc) (by simp)
  have nfr : ∀ c, cellsOf F c → c ∉ frs outer := fun c hc z => by
    obtain ⟨v, hv⟩ := cell c hc
    rw [e0.frf c z] at hv; cases hv
  refine ⟨v, red F H H', J.os, J.bare, ?_, fun b o e => ?_, rv, q cn⟩
  · refine ⟨fun b o q n hb hx => un.keep b o q (un0 b n) hb hx, fun b o q n hb hx => un.slot b o q (un0 b n) hb hx, fun b o q n hx => ?_, fun b o q hx => un.there b o q hx, fun b xs q => ?_, fun b o u q => ?_, fun b ps q => ?_⟩
    · have nc : ¬ cellsOf F b := fun z => by obtain ⟨v, hv⟩ := cell b z; rw [n] at hv; cases hv
      rw [red_in nc]
      exact un.free b o q (un0 b n) hx
    · have nc : ¬ cellsOf F b := fun z => by obtain ⟨v, hv⟩ := cell b z; rw [q] at hv; cases hv
      rw [red_in nc]
      exact un.tups b xs (by rw [und_in nc]; exact q)
    · have nc : ¬ cellsOf F b := fun z => by obtain ⟨v, hv⟩ := cell b z; rw [q] at hv; cases hv
      rw [red_in nc]
      exact un.frzs b o u (by rw [und_in nc]; exact q)
    · have nc : ¬ cellsOf F b := fun z => by obtain ⟨v, hv⟩ := cell b z; rw [q] at hv; cases hv
      obtain ⟨more, e⟩ := un.tbls b ps (by rw [und_in nc]; exact q)
      exact ⟨more, by rw [red_in nc]; exact e⟩
  · by_cases hc : cellsOf F b
    · obtain ⟨v, hv⟩ := cell b hc
      rw [red_no hc, hv] at e
      cases e
      obtain ⟨u, ru, o, h2, hd⟩ := isc b v hv
      have k2 := un.keep b o h2 (und_no hc) (nfr b hc) (by simp)
      exact ⟨⟨u, ru, o, k2, hd⟩, ⟨o, k2⟩, fun h1 h3 ⟨u', r', o', z1, z2⟩ st => ⟨u', r', o', st _ z1, z2⟩⟩
    · rw [red_in hc] at e
      exact (J.hok b o e).stay (fun _ _ _ q => q) (fun c q => by
        have nc : ¬ cellsOf F c := fun z => by rw [cn c z] at q; cases q
        rw [red_in nc]; exact q) fun c xs q => by
        have nc : ¬ cellsOf F c := fun z => by rw [cn c z] at q; cases q
        rw [red_in nc]; exact q
end
end Q8

namespace Q8
open PySem PySem.Spec PyProof.Rows L2 StX LamX NdefX
/-! ### the making of a lambda that is kept -/
section
variable {X : Cx} {pins : List (Addr × Obj)} {σ : L2.St} {H : Hp} {s : Shared}
theorem table_more {Pt c' : Addr} {q : Str} {H : Hp} {ps : Array Value} {pos : Pos} (e1 : H Pt = some (.tbl ps)) (e2 : TriplesOk ps.toList) (e3 : ∀ (p' : Pos) (cv : Value), codeAmong p' ps.toList = some cv → ∃ c, cv = .ref c ∧ H c = some (CodeO c q)) (nC : H c' = none) :
    TabS (upd (upd H Pt (.tbl (ps ++ #[rawInt pos.line, rawInt pos.col, .ref c']))) c' (CodeO c' q)) Pt q := by
  have lst : (ps ++ #[rawInt pos.line, rawInt pos.col, .ref c']).toList = ps.toList ++ [rawInt pos.line, rawInt pos.col, .ref c'] := by simp
  have np : Pt ≠ c' := ne_of_none e1 nC
  refine ⟨_, (by rw [upd_ne np]; exact upd_same), (by rw [lst]; exact PySem.TriplesOk_snoc _ _ _ _ e2), fun p' cv found => ?_⟩
  rw [lst] at found
  rcases among_app _ e2 found with old | new
  · obtain ⟨c0, ec, hc0⟩ := e3 p' cv old
    have n1 : c0 ≠ c' := ne_of_none hc0 nC
    have n2 : c0 ≠ Pt := fun z => by
      rw [z, e1] at hc0
      exact codeO_ne ps (Option.some.inj hc0).symm
    exact ⟨c0, ec, by rw [upd_ne n1, upd_ne n2]; exact hc0⟩
  · exact ⟨c', new, upd_same⟩
theorem lam_new {c Pt : Addr} {q : Str} {params : Arguments} {body : Expr} {scope : Scope} {pos : Pos} {E : Value → Shared → Prop} {Q : Value → Shared → Prop} (I : Inv X pins σ H s) (TB : TabB X.base X.mg c Pt) (hcode : X.env.code = .ref c) (hq : X.env.qual ++ "<lambda>" = q) (tab : TabS H Pt q)
    (hdef : defaultsOf params X.env = ([], [])) (hfree : ∀ y ∈ scope.names, y.2 = .free → ∃ c, X.env.cells.lookup y.1 = some c)
    (go : ∀ (g c' : Addr) (pm ctv : Value) (H1 : Hp) (s' : Shared), Inv X pins σ H1 s' → (∀ b o, b ≠ Pt → H b = some o → H1 b = some o) → (∀ b, H1 b = none → H b = none) → TabS H1 Pt q → s.heap.objs.size ≤ g → H1 g = none → H1 c' = some (CodeO c' q) →
      s'.heap.get? g = some (PySem.W.kla_obj "<lambda>" q params body scope (cloFrom X.env.cells scope.names []) pm c' ctv) → Q (.ref g) s') : wpAny (model X.prog X.w) X.A (eval (.Lambda params body scope pos) X.env) Q E s := by
  subst hq
  obtain ⟨ps, e1, e2, e3⟩ := tab
  have blt : s.heap.BuiltinsAt X.mg Pt := TB.bm.keeps I.bk
  have obj : s.heap.get? Pt = some { cls := .none, data := .fields ps } := I.hok Pt _ e1
  refine PySem.W.kla_eval hdef ?_
  rcases em : codeAmong pos ps.toList with _ | cv
  · refine PySem.W.kla_makeFunction (mg := X.mg) (closure_ok hfree) I.ok.glob (I.mod.glob.keeps I.bk) hcode (TB.code.keeps I.bk) obj e2 em TB.gP blt ?_
    intro c' ctv h' tk ext le lt rec at_
    obtain ⟨_, oc, us, t, ec, x1, x2, x3⟩ := rec
    cases ec
    have far : s.heap.objs.size ≤ h'.objs.size := Nat.le_trans le (Nat.le_of_lt lt)
    have nC := I.hok.fresh le
    have J := inv_table (t' := tk) (more := #[rawInt pos.line, rawInt pos.col, .ref c']) (h' := h'.push (PySem.W.kla_obj "<lambda>" (X.env.qual ++ "<lambda>") params body scope (cloFrom X.env.cells scope.names []) ((X.mg "__name__").getD .none) c' ctv)) I e1
      (fun b u hb e => Heap.get?_push_of_some _ (ext b u hb e)) (Heap.get?_push_of_some _ at_) le ⟨oc, us, t, Heap.get?_push_of_some _ x1, x2, x3⟩
    have a1 : h'.objs.size ≠ c' := Nat.ne_of_gt lt
    have a2 : h'.objs.size ≠ Pt := Nat.ne_of_gt (Nat.lt_of_lt_of_le (Heap.lt_size obj) far)
    refine go _ c' _ ctv _ _ J (fun b u n2 e => ?_) (fun b n => upd_none (upd_none n)) (table_more e1 e2 e3 nC) far (by rw [upd_ne a1, upd_ne a2]; exact I.hok.fresh far) upd_same (Heap.get?_push_size _ rfl)
    rw [upd_ne (ne_of_none e nC), upd_ne n2]
    exact e
  · obtain ⟨c', ec, hc'⟩ := e3 pos cv em
    subst ec
    refine PySem.W.kla_makeFunctionHit (mg := X.mg) (closure_ok hfree) I.ok.glob (I.mod.glob.keeps I.bk) hcode (TB.code.keeps I.bk) obj e2 em blt ?_
    intro ctv h' tk ext far
    have J : Inv X pins σ H { s with heap := h'.push (PySem.W.kla_obj "<lambda>" (X.env.qual ++ "<lambda>") params body scope (cloFrom X.env.cells scope.names []) ((X.mg "__name__").getD .none) c' ctv), toks := tk } := I.kept fun b u e => Heap.get?_push_of_some _ (ext b u e)
    exact go _ c' _ ctv H _ J (fun _ _ _ e => e) (fun b n => n) ⟨ps, e1, e2, e3⟩ far (I.hok.fresh far) hc' (Heap.get?_push_size _ rfl)
end
/-- the names of a maker and of its lambda -/
structure LamSc (ps : List Str) (sc : Scope) (scope : Scope) : Prop where
  cell : ∀ y ∈ ps, sc.names.lookup y = some .cell
  sub : ∀ y ∈ scope.names, y.2 = .free → y.1 ∈ ps
  sup : ∀ y ∈ ps, (y, NameKind.free) ∈ scope.names
/-- a def that hands back a lambda over its parameters -/
def spLam (Pt : Addr) (q : Str) (params : Arguments) (body : Expr) (scope : Scope) (ps : List Str) : Sp := fun vs H Q _ => vs.length = ps.length ∧ TabS H Pt q ∧
  ∀ (H' : Hp) (g c' : Addr) (cl : List (Str × Addr)), (∀ b o, b ≠ Pt → H b = some o → H' b = some o) → TabS H' Pt q → H g = none → LamAt H' g ⟨"<lambda>", q, params, [], scope, cl, c'⟩ body ps vs → (∀ c, cellsOf ⟨"<lambda>", q, params, [], scope, cl, c'⟩ c → H c = none) → Q (.ref g) H'
section
variable {P : Program} {w : World} {K : PySem.W.Frag} {mg : Str → Option Value} {base : Heap}
theorem ok_lam {x qual : Str} {st : Stmt} {f : Addr} {fd : FuncData} {ps : List Str} {params : Arguments} {body : Expr} {scope : Scope} {lpos rpos : Pos} {c Pt : Addr} (F : Fun K x qual st f fd) (S : FnScope ps ps (defScope st))
    (hst : defBody st = [.Return (some (.Lambda params body scope lpos)) rpos]) (hc : fd.code = .ref c) (TB : TabB base mg c Pt) (Z : LamSc ps (defScope st) scope) (hdef : ∀ env, defaultsOf params env = ([], [])) :
    FnOk P w K mg base CX0 1 f fd ps (spLam Pt (qual ++ ".<locals>." ++ "<lambda>") params body scope ps) := by
  obtain ⟨oc, od, kV, doc, pm, an, cdv, ct, osl, rfl, lk, hcd⟩ := F.ex
  have hc : cdv = .ref c := hc
  refine ⟨fun vs H Q E h => h.1, fun A outer s H args us vs Q E hr e0 hb r h => ?_⟩
  obtain ⟨hl, tab, q⟩ := h
  have KX : K.In s.heap := e0.mod.kin.keeps fun b o e => (e0.bs b o e).1
  have lim : s.heap.NoLimit := e0.mod.nolimit.keeps fun b o e => (e0.bs b o e).1
  have kinds : ∀ y ∈ ps.zip us, (defScope st).names.lookup y.1 = some .local ∨ ((defScope st).names.lookup y.1 = some .cell ∧ ((cellsFrom (s.heap.objs.size + 1) (defScope st).names []).lookup y.1).isSome = true) := by
    rintro ⟨n, v⟩ hy
    have z := Z.cell n (List.of_mem_zip hy).1
    exact .inr ⟨z, PySem.W.cellsFrom_some _ _ _ (.inl z)⟩
  refine codeAny_call_function hr.depth (KX _ _ lk) rfl S.co S.gen rfl (PySem.W.codeRec_of KX hcd) (hb _ _ _ _ ?_)
  refine wpAny_newFunctionEnv_cells S.kind kinds fun env he s1 x => ?_
  subst he
  refine ⟨lim.keeps x.toInCall.keep, codeAny_func ?_⟩
  have I : Inv (cxOf CX0 P w K mg base ps qual (defScope st) f cdv A outer s H fun _ _ _ => False) [] (L2.start ps vs) H s1 := inv_start S hr.hd e0 hl r x
  rw [hst]
  have hs0 : s.heap.objs.size ≤ s1.heap.objs.size := I.sz
  have cellAt : ∀ y ∈ ps, ∃ a, (cxOf CX0 P w K mg base ps qual (defScope st) f cdv A outer s H fun _ _ _ => False).env.cells.lookup y = some a := fun y hy => I.ok.has y (.inl (Z.cell y hy))
  refine wpAny_execs_cons (wpAny_Return_some (lam_new (Q := _) I TB hc rfl tab (hdef _) (fun y hy e => cellAt _ (Z.sub y hy e)) fun g c' pm' ctv H1 s' J ext back tab1 far ng hco hg => ?_))
  show CE outer P w H s Q (.ref g) s'
  have nfs : s.heap.objs.size ≤ g := Nat.le_trans hs0 far
  -- what the cells hold
  have clk : ∀ y a, (cloFrom (cxOf CX0 P w K mg base ps qual (defScope st) f cdv A outer s H fun _ _ _ => False).env.cells scope.names []).lookup y = some a → y ∈ ps ∧ (cxOf CX0 P w K mg base ps qual (defScope st) f cdv A outer s H fun _ _ _ => False).env.cells.lookup y = some a := fun y a e => by
    refine ⟨?_, clo_cm (fun y hy e => cellAt _ (Z.sub y hy e)) e⟩
    rcases cloFrom_mem (PySem.mem_of_lookup e) with hm | ⟨h1, _⟩
    · cases hm
    · exact Z.sub _ h1 rfl
  have val : ∀ (i : Nat) y a v, ps[i]? = some y → vs[i]? = some v → (cxOf CX0 P w K mg base ps qual (defScope st) f cdv A outer s H fun _ _ _ => False).env.cells.lookup y = some a → ∃ u, RelV v u ∧ s'.heap.IsCell a (some u) := fun i y a v e1 e2 e3 => by
    obtain ⟨m, _, loc⟩ := J.loc
    have es : (L2.start ps vs)[i]? = some (some v) := by
      unfold L2.start
      have li : i < vs.length := by
        rcases Nat.lt_or_ge i vs.length with z | z
        · exact z
        · rw [List.getElem?_eq_none z] at e2; cases e2
      rw [List.getElem?_append_left (by rw [List.length_map]; exact li), List.getElem?_map, e2]
      rfl
    obtain ⟨u, ru, lo⟩ := loc i y v e1 es (.inr (.inl (Z.cell y (List.mem_of_getElem? e1))))
    rcases lo with ⟨z, _⟩ | ⟨_, a', ea, ha⟩
    · have z : (defScope st).names.lookup y = some .local := z
      rw [Z.cell y (List.mem_of_getElem? e1)] at z
      cases z
    · rw [e3] at ea
      cases ea
      exact ⟨u, ru, ha⟩
  let Fn : NF := ⟨"<lambda>", qual ++ ".<locals>." ++ "<lambda>", params, [], scope, cloFrom (cxOf CX0 P w K mg base ps qual (defScope st) f cdv A outer s H fun _ _ _ => False).env.cells scope.names [], c'⟩
  have isv : ∀ b, cellsOf Fn b → ∃ (i : Nat) (y : Str) (v : V), ps[i]? = some y ∧ vs[i]? = some v ∧ (cxOf CX0 P w K mg base ps qual (defScope st) f cdv A outer s H fun _ _ _ => False).env.cells.lookup y = some b := fun b ⟨y, e⟩ => by
    obtain ⟨h1, h2⟩ := clk y b e
    obtain ⟨i, hi⟩ := List.mem_iff_getElem?.mp h1
    have li : i < ps.length := by
      rcases Nat.lt_or_ge i ps.length with z | z
      · exact z
      · rw [List.getElem?_eq_none z] at hi; cases hi
    exact ⟨i, y, vs[i]'(by omega), hi, List.getElem?_eq_getElem _, h2⟩
  have cnew : ∀ b, cellsOf Fn b → s.heap.objs.size ≤ b ∧ H1 b = none := fun b hb => by
    obtain ⟨i, y, v, e1, e2, e3⟩ := isv b hb
    exact ⟨I.ok.cab y b rfl e3, J.freeC y b e3⟩
  have lt_ : ∀ {i : Nat} {y : Str}, ps[i]? = some y → i < ps.length := fun {i y} e => by
    rcases Nat.lt_or_ge i ps.length with k | k
    · exact k
    · rw [List.getElem?_eq_none k] at e; cases e
  have same_ix : ∀ {i j : Nat} {y : Str}, ps[i]? = some y → ps[j]? = some y → i = j := fun {i j y} e1 e2 => by
    have nd := List.nodup_iff_pairwise_ne.mp S.nd
    have z := List.pairwise_iff_getElem.mp nd
    have l1 := lt_ e1
    have l2 := lt_ e2
    rw [List.getElem?_eq_getElem l1] at e1
    rw [List.getElem?_eq_getElem l2] at e2
    rcases Nat.lt_trichotomy i j with h | h | h
    · exact absurd ((Option.some.inj e1).trans (Option.some.inj e2).symm) (z i j l1 l2 h)
    · exact h
    · exact absurd ((Option.some.inj e2).trans (Option.some.inj e1).symm) (z j i l2 l1 h)
  have uv : ∀ b, cellsOf Fn b → ∃ v, ∀ (i : Nat) (y : Str) (v' : V), ps[i]? = some y → vs[i]? = some v' → (cxOf CX0 P w K mg base ps qual (defScope st) f cdv A outer s H fun _ _ _ => False).env.cells.lookup y = some b → v' = v := fun b hb => by
    obtain ⟨i, y, v, e1, e2, e3⟩ := isv b hb
    refine ⟨v, fun j y' v' g1 g2 g3 => ?_⟩
    have ey := I.ok.inj _ _ _ e3 g3
    rw [← ey] at g1
    have ej := same_ix e1 g1
    rw [← ej, e2] at g2
    exact (Option.some.inj g2).symm
  classical
  let H2 : Hp := fun b => if b = g then some (LamO g Fn body) else if hb : cellsOf Fn b then some (CellO b (uv b hb).choose) else H1 b
  have at_g : H2 g = some (LamO g Fn body) := if_pos rfl
  have gcell : ∀ b, cellsOf Fn b → b ≠ g := fun b hb z => by
    obtain ⟨i, y, v, e1, e2, e3⟩ := isv b hb
    obtain ⟨u, _, o, h2, hd⟩ := val i y b v e1 e2 e3
    rw [z, hg] at h2
    cases h2
    cases hd
  have at_c : ∀ b, cellsOf Fn b → ∀ (i : Nat) (y : Str) (v : V), ps[i]? = some y → vs[i]? = some v → (cxOf CX0 P w K mg base ps qual (defScope st) f cdv A outer s H fun _ _ _ => False).env.cells.lookup y = some b → H2 b = some (CellO b v) := fun b hb i y v e1 e2 e3 => by
    have e : H2 b = some (CellO b (uv b hb).choose) := by
      show (if b = g then _ else _) = _
      rw [if_neg (gcell b hb), dif_pos hb]
    rw [e, ← (uv b hb).choose_spec i y v e1 e2 e3]
  have at_o : ∀ b, b ≠ g → ¬ cellsOf Fn b → H2 b = H1 b := fun b n1 n2 => by
    show (if b = g then _ else _) = _
    rw [if_neg n1, dif_neg n2]
  have keep : ∀ b o, H1 b = some o → H2 b = some o := fun b o e => by
    rw [at_o b (fun z => by rw [z, ng] at e; cases e) fun z => by rw [(cnew b z).2] at e; cases e]
    exact e
  have un : Un (frs outer) [] H H1 s.heap s'.heap := J.base
  refine ⟨.ref g, H2, J.os, J.bare, ⟨un.keep, un.slot, fun b o e n hx => ?_, un.there, fun b xs e => keep _ _ (un.tups b xs e), fun b o u e => keep _ _ (un.frzs b o u e), fun b p e => by obtain ⟨more, z⟩ := un.tbls b p e; exact ⟨more, keep _ _ z⟩⟩, fun b o e => ?_, rfl, ?_⟩
  · have lt := Heap.lt_size e
    rw [at_o b (Nat.ne_of_lt (Nat.lt_of_lt_of_le lt nfs)) fun z => absurd (Nat.lt_of_lt_of_le lt (cnew b z).1) (Nat.lt_irrefl _)]
    exact un.free b o e n hx
  · by_cases bg : b = g
    · subst bg
      rw [at_g] at e
      cases e
      exact ⟨⟨_, _, pm', ctv, hg⟩, ⟨_, hg⟩, fun h1 h2 ⟨od, sl, p', t', z⟩ st => ⟨od, sl, p', t', st _ z⟩⟩
    · by_cases hb : cellsOf Fn b
      · obtain ⟨i, y, v, e1, e2, e3⟩ := isv b hb
        rw [at_c b hb i y v e1 e2 e3] at e
        cases e
        obtain ⟨u, ru, ho⟩ := val i y b v e1 e2 e3
        obtain ⟨o, h2, hd⟩ := ho
        exact ⟨⟨u, ru, o, h2, hd⟩, ⟨o, h2⟩, fun h1 h3 ⟨u', r', o', z1, z2⟩ st => ⟨u', r', o', st _ z1, z2⟩⟩
      · rw [at_o b bg hb] at e
        exact (J.hok b o e).stay (fun _ _ _ z => z) (fun c z => keep _ _ z) fun c xs z => keep _ _ z
  · refine q H2 g c' Fn.cl (fun b o n e => keep _ _ (ext b o n e)) ?_ ?_ ⟨at_g, keep _ _ hco, hl, fun y a e => ?_, fun i y e => ?_, fun y1 y2 a e1 e2 => I.ok.inj _ _ _ (clk y1 a e1).2 (clk y2 a e2).2⟩ fun b hb => back b (cnew b hb).2
    · obtain ⟨ts, t1, t2, t3⟩ := tab1
      exact ⟨ts, keep _ _ t1, t2, fun p cv z => by obtain ⟨c0, z1, z2⟩ := t3 p cv z; exact ⟨c0, z1, keep _ _ z2⟩⟩
    · exact back g ng
    · have hb : cellsOf Fn a := ⟨y, e⟩
      obtain ⟨i, y', v, e1, e2, e3⟩ := isv a hb
      exact ⟨v, at_c a hb i y' v e1 e2 e3⟩
    · have hy := List.mem_of_getElem? e
      obtain ⟨a, ha⟩ := cellAt y hy
      have hcl : Fn.cl.lookup y = some a := clo_has (fun y hy e => cellAt _ (Z.sub y hy e)) (Z.sup y hy) ha
      exact ⟨a, hcl, fun v ev => at_c a ⟨y, hcl⟩ i y v e ev ha⟩
end
end Q8

namespace Q8
open PySem PySem.Spec PyProof.Rows L2 StX TL RZ LamX NdefX
/-! ### a handler -/
theorem TyNs.up {K : PySem.W.Frag} {C : Addr} {H H' : Hp} {xs : List V} {bs : List Bool} (h : TyNs K C H xs bs) (s : Same H H') : TyNs K C H' xs bs := ⟨h.1, fun i x b e1 e2 => (h.2 i x b e1 e2).up s⟩
theorem ResV.up {K : PySem.W.Frag} {C : Addr} {H H' : Hp} {v : V} {r : RK} (h : ResV K C H v r) (s : Same H H') : ResV K C H' v r := by
  cases r with
  | bd =>
    obtain ⟨t, h1, h2⟩ := h
    exact ⟨t, tyX_up h1 s, h2⟩
  | bl =>
    obtain ⟨l, xs, bs, e, h1, h2, h3⟩ := h
    exact ⟨l, xs, bs, e, s _ _ h1, h2.up s, h3⟩
  | nn => exact h
  | gl =>
    obtain ⟨l, xs, e, h1, h2, h3⟩ := h
    exact ⟨l, xs, e, s _ _ h1, fun x hx => (h2 x hx).up s, h3⟩
  | nd => exact NodeV.up h s
abbrev sAc : Stmt := topS 47
theorem scAc : FnScope ["_law_node_here", "_law_way", "_law_start", "_law_met"] ["_law_node_here", "_law_way", "_law_start", "_law_met"] (defScope sAc) := ⟨rfl, rfl, rfl, by decide +kernel, rfl, by decide +kernel, by decide +kernel⟩
/-- what the n-th call of a handler gives (n from 1) -/
def rkAt (st w n : Nat) : RK := if n ≤ st then .nd else rkOf w
def spAc (K : PySem.W.Frag) (C : Addr) : Sp := fun vs H Q _ => ∃ (p dx mt : Addr) (fs : List (Str × V)) (kd : Str) (w st : Nat) (xs : List V), vs = [.ref p, .int (w : Int), .int (st : Int), .ref mt] ∧ H p = some (.ins C dx fs) ∧ fs.lookup ("kind" : Str) = some (.str kd) ∧ w < 19 ∧ H mt = some (.lst xs) ∧ xs.length ≤ 1000000 ∧
  ∀ H' v, (∀ b o, b ≠ mt → H b = some o → H' b = some o) → H' mt = some (.lst (xs ++ [.str kd])) → ResV K C H' v (rkAt st w (xs.length + 1)) → Q v H'
section
variable {P : Program} {w : World} {K : PySem.W.Frag} {mg : Str → Option Value} {base : Heap} {C : Addr}
theorem ok_ac {f fR : Addr} {fd dR : FuncData} (F : Fun K "_law_acted" "_law_acted" sAc f fd) (Z : Blt mg) (Nf : NodeF K C) (RT : FnOk P w K mg base CX0 7 fR dR ["_law_node_here", "_law_way"] (spRt K C)) (bR : Binds K dR ["_law_node_here", "_law_way"] []) (kR : PySem.W.keepIn K (.ref fR) = true) (mR : mg "_law_return" = some (.ref fR)) : FnOk P w K mg base CX0 8 f fd ["_law_node_here", "_law_way", "_law_start", "_law_met"] (spAc K C) := by
  refine F.ok scAc (fun vs H Q E h => ?_) (fun cdv A outer s H vs Q E hr h => ?_)
  · obtain ⟨p, dx, mt, fs, kd, w, st, xs, rfl, _⟩ := h
    rfl
  obtain ⟨p, dx, mt, fs, kd, w, st, xs, rfl, hp, hk, hw, hmt, hx, q⟩ := h
  have zM : (1000000 : Nat) < sizeLine := by decide
  refine ⟨_, (pss_cons (ps_expr (pe_bm PySem.F.plainAttrs_list PySem.F.slot_list_append PySem.F.type_list_append mt_append (pv 3) (pa_cons (pe_fld (pv 0) rfl) pa_nil)))
    (pss_one (ps_ret (pe_ifExp (pt_cmpR op_le (pe_callB call_len_seq rfl Z.ln PySem.boot_len (pa_cons (pv 3) pa_nil)) (pv 2) (nomark _)) (pv 0) (pe_call RT hr rfl mR kR bR .nil pass0 (pa_cons (pv 0) (pa_cons (pv 1) pa_nil))))))), ?_⟩
  have mp : mt ≠ p := fun z => by rw [z, hp] at hmt; cases hmt
  refine ⟨_, rfl, .inl ⟨rfl, _, SqL.of hmt⟩, _, rfl, p, C, dx, fs, .str kd, rfl, hp, Nf.cl, Nf.n1, hk, mt, xs, _, rfl, rfl, hmt, by omega, ?_⟩
  have k1 : ∀ b o, b ≠ mt → H b = some o → (upd H mt (.lst (xs ++ [.str kd]))) b = some o := fun b o n e => by rw [upd_ne n]; exact e
  have m1 : (upd H mt (.lst (xs ++ [.str kd]))) mt = some (.lst (xs ++ [.str kd])) := upd_same
  generalize upd H mt (.lst (xs ++ [.str kd])) = H1 at k1 m1 ⊢
  have hp1 := k1 _ _ mp.symm hp
  have ln : (((xs ++ [V.str kd]).length : Nat) : Int) = ((xs.length + 1 : Nat) : Int) := by rw [List.length_append]; rfl
  refine ⟨_, rfl, mt, _, rfl, .inl (SqL.of m1), _, rfl, _, _, rfl, rfl, _, rfl, ite2 (fun c => ?_) (fun c => ?_)⟩
  · have z := of_decide_eq_true c
    rw [ln] at z
    refine ⟨_, rfl, q H1 _ k1 m1 ?_⟩
    unfold rkAt
    rw [if_pos (by omega)]
    exact ⟨p, dx, fs, rfl, hp1, kd, hk⟩
  · have z : ¬ (((xs ++ [V.str kd]).length : Nat) : Int) ≤ (st : Int) := fun y => c (decide_eq_true y)
    rw [ln] at z
    refine ⟨_, rfl, _, rfl, p, dx, fs, kd, w, rfl, hp1, hk, hw, fun H' v s' hv => q H' v (fun b o n e => s' _ _ (k1 b o n e)) (s' _ _ m1) ?_⟩
    unfold rkAt
    rw [if_neg (by omega)]
    exact hv
end
end Q8

namespace Q8
open PySem PySem.Spec PyProof.Rows L2 StX RZ LamX NdefX
/-! ### the handlers -/
abbrev sBd : Stmt := topS 48
def lmE (st : Stmt) : Expr := match defBody st with
  | [.Return (some e) _] => e
  | _ => .Constant .none 0 ⟨0, 0, 0, 0⟩
def lmP : Arguments := match lmE sBd with
  | .Lambda p _ _ _ => p
  | _ => defArgs sBd
def lmB : Expr := match lmE sBd with
  | .Lambda _ b _ _ => b
  | _ => .Constant .none 0 ⟨0, 0, 0, 0⟩
def lmS : Scope := match lmE sBd with
  | .Lambda _ _ s _ => s
  | _ => defScope sBd
def lmL : Pos := match lmE sBd with
  | .Lambda _ _ _ p => p
  | _ => ⟨0, 0, 0, 0⟩
def lmR : Pos := match defBody sBd with
  | [.Return _ p] => p
  | _ => ⟨0, 0, 0, 0⟩
theorem lm_st : defBody sBd = [.Return (some (.Lambda lmP lmB lmS lmL)) lmR] := rfl
abbrev lmFr : List Str := ["_law_way", "_law_start", "_law_met"]
theorem scBd : FnScope ["_law_way", "_law_start", "_law_met"] ["_law_way", "_law_start", "_law_met"] (defScope sBd) := ⟨rfl, rfl, rfl, by decide +kernel, rfl, by decide +kernel, by decide +kernel⟩
theorem lm_sc : LamSc lmFr (defScope sBd) lmS := ⟨by decide +kernel, by decide +kernel, by decide +kernel⟩
theorem lm_def : ∀ env, defaultsOf lmP env = ([], []) := fun env => rfl
abbrev lmN : List Str := ["_law_node_here", "_law_way", "_law_start", "_law_met"]
theorem lm_ns : NScope lmN ["_law_node_here"] lmFr lmS := nscope_by (by decide +kernel)
def lmQ : Str := "_law_bound" ++ ".<locals>." ++ "<lambda>"
/-- a handler: what a call of _law_bound made -/
def HandF (F : NF) : Prop := ∃ cl c, F = ⟨"<lambda>", lmQ, lmP, [], lmS, cl, c⟩
section
variable {P : Program} {w : World} {K : PySem.W.Frag} {mg : Str → Option Value} {base : Heap}
theorem ok_bd {f : Addr} {fd : FuncData} {c Pt : Addr} (F : Fun K "_law_bound" "_law_bound" sBd f fd) (hc : fd.code = .ref c) (TB : TabB base mg c Pt) : FnOk P w K mg base CX0 1 f fd lmFr (spLam Pt lmQ lmP lmB lmS lmFr) :=
  ok_lam F scBd lm_st hc TB lm_sc lm_def
variable {C : Addr}
/-- what a handler's call needs and gives -/
def HandR (K : PySem.W.Frag) (C : Addr) (vs : List V) (H : Hp) (wy st : Nat) (mt : Addr) (Q : VK) : Prop := ∃ (p dx : Addr) (fs : List (Str × V)) (kd : Str) (xs : List V), vs = [.ref p] ∧ H p = some (.ins C dx fs) ∧ fs.lookup ("kind" : Str) = some (.str kd) ∧ wy < 19 ∧ H mt = some (.lst xs) ∧ xs.length ≤ 1000000 ∧
  ∀ H' v, (∀ b o, b ≠ mt → H b = some o → H' b = some o) → H' mt = some (.lst (xs ++ [.str kd])) → ResV K C H' v (rkAt st wy (xs.length + 1)) → Q v H'
/-- a handler called -/
theorem hand_run {g : Addr} {F : NF} {fA : Addr} {dA : FuncData} {mt : Addr} {wy st : Nat} {A : Around} {outer : List Env} {s : Shared} {H : Hp} {us : List Value} {vs : List V} {Q : VK} (AC : FnOk P w K mg base CX0 8 fA dA ["_law_node_here", "_law_way", "_law_start", "_law_met"] (spAc K C)) (bA : Binds K dA ["_law_node_here", "_law_way", "_law_start", "_law_met"] []) (kA : PySem.W.keepIn K (.ref fA) = true) (mA : mg "_law_acted" = some (.ref fA))
    (hF : HandF F) (hr : Room 9 A) (e0 : Env0 P w K mg base A outer s H) (L : LamAt H g F lmB lmFr [.int (wy : Int), .int (st : Int), .ref mt]) (r : Vals vs us) (q : HandR K C vs H wy st mt Q) :
    codeAny (model P w) A (.call (.ref g) ⟨us, []⟩) (CR CX0 outer P w H s Q (fun _ _ _ => False)) s := by
  obtain ⟨cl, c, rfl⟩ := hF
  obtain ⟨p, dx, fs, kd, xs, rfl, hp, hk, hw, hmt, hx, q⟩ := q
  have cell : ∀ c', cellsOf ⟨"<lambda>", lmQ, lmP, [], lmS, cl, c⟩ c' → ∃ v, H c' = some (CellO c' v) := fun c' ⟨y, e⟩ => L.all y c' e
  have nc : ∀ b o, H b = some o → (∀ φ, o ≠ .ext φ) → ¬ cellsOf ⟨"<lambda>", lmQ, lmP, [], lmS, cl, c⟩ b := fun b o e n z => by
    obtain ⟨v, hv⟩ := cell b z
    rw [e] at hv
    exact n _ (Option.some.inj hv)
  refine lam_run (k := 8) lm_ns (fun pm ctv us hl => match us, hl with | [_], _ => rfl) hr e0 L r rfl fun hr' => ?_
  refine ⟨_, pe_call AC hr' rfl mA kA bA .nil pass0 (pa_cons (pv 0) (pa_cons (pv 1) (pa_cons (pv 2) (pa_cons (pv 3) pa_nil)))), ?_⟩
  have up : ∀ b o, H b = some o → (∀ φ, o ≠ .ext φ) → und ⟨"<lambda>", lmQ, lmP, [], lmS, cl, c⟩ H b = some o := fun b o e n => by rw [und_in (nc b o e n)]; exact e
  refine ⟨_, rfl, _, rfl, _, rfl, _, rfl, p, dx, mt, fs, kd, wy, st, xs, rfl, up _ _ hp fun φ y => (by cases y), hk, hw, up _ _ hmt fun φ y => (by cases y), hx, fun H' v k1 m1 hv cn => ?_⟩
  have nc' : ∀ b o, H' b = some o → ¬ cellsOf ⟨"<lambda>", lmQ, lmP, [], lmS, cl, c⟩ b := fun b o e z => by rw [cn b z] at e; cases e
  have sR : Same H' (red ⟨"<lambda>", lmQ, lmP, [], lmS, cl, c⟩ H H') := fun b o e => by rw [red_in (nc' b o e)]; exact e
  refine q _ v (fun b o n e => ?_) (sR _ _ m1) (hv.up sR)
  by_cases z : cellsOf ⟨"<lambda>", lmQ, lmP, [], lmS, cl, c⟩ b
  · rw [red_no z]; exact e
  · rw [red_in z]; exact k1 b o n (by rw [und_in z]; exact e)
/-- f(..), f a local name that holds a handler -/
def tHand (K : PySem.W.Frag) (C : Addr) (i : Nat) (t : TA) : TE := fun σ H Q => ∃ (g : Addr) (F : NF) (wy st : Nat) (mt : Addr), σ[i]? = some (some (.ref g)) ∧ HandF F ∧ LamAt H g F lmB lmFr [.int (wy : Int), .int (st : Int), .ref mt] ∧
  t σ H fun vs H1 => LamAt H1 g F lmB lmFr [.int (wy : Int), .int (st : Int), .ref mt] ∧ HandR K C vs H1 wy st mt Q
theorem lamAt_fn {X : Cx} {pins : List (Addr × Obj)} {σ : L2.St} {H : Hp} {s : Shared} {g : Addr} {F : NF} {body : Expr} {fr : List Str} {ws : List V} (I : Inv X pins σ H s) (L : LamAt H g F body fr ws) : PySem.W.FnAt g s.heap := by
  obtain ⟨⟨od, sl, pm, ctv, ho⟩, _, _⟩ := I.hok g _ L.fn
  exact ⟨_, od, _, sl, ho⟩
theorem pe_hand {X : Cx} {C : Addr} {i : Nat} {x : Str} {t : TA} {e : Expr} {es : List Expr} {p pos : Pos} {fA : Addr} {dA : FuncData} (AC : FnOk X.prog X.w X.K X.mg X.base CX0 8 fA dA ["_law_node_here", "_law_way", "_law_start", "_law_met"] (spAc X.K C)) (bA : Binds X.K dA ["_law_node_here", "_law_way", "_law_start", "_law_met"] []) (kA : PySem.W.keepIn X.K (.ref fA) = true) (mA : X.mg "_law_acted" = some (.ref fA))
    (hr : Room 9 X.A) (hN : X.N[i]? = some x) (hv : Vis X.env.scope x) (ha : PA X (e :: es) t)
    (hd : (x == ("__debug__" : Str)) = false := by decide) (hcd : (x == ("__classdict__" : Str)) = false := by decide)
    (he : starEach (e :: es) X.env = (false, eval e X.env) :: starEach es X.env := by rfl) (hpl : (backTo pos (starEach es X.env)).any (·.1) = false := by rfl)
    :
    PE X (.Call (.Name x p) (e :: es) [] pos) (tHand X.K C i t) := by
  refine ⟨fun pins s σ H Q I h => ?_⟩
  obtain ⟨g, F, wy, st, mt, hs, hF, L, ht⟩ := h
  refine wpAny_Call_Name_kw (thn ((pe_var (pos := p) hN hv hd hcd).run pins s σ H (fun v H1 => v = .ref g ∧ H1 = H) I ⟨.ref g, hs, rfl, rfl⟩) fun u s1 ⟨v, H1, I1, r1, q1⟩ => ?_)
  obtain ⟨ev, eH⟩ := q1
  subst ev
  rw [eH] at I1
  obtain rfl : u = Value.ref g := r1
  refine PySem.W.callWith_F (first := []) (lamAt_fn I1 L) (thn (ha.run pos pins s1 σ H _ I1 ht) fun us s2 ⟨vs, H2, I2, r, q⟩ => ?_) he hpl
  obtain ⟨L2, q⟩ := q
  refine ⟨lamAt_fn I2 L2, ?_⟩
  show wpAny _ _ (call (.ref g) us) _ _ _
  refine wpAny_call (codeAny_mono (hand_run (Q := Q) AC bA kA mA hF hr I2.env0 L2 r q) fun r s' hq => ?_)
  cases r with
  | error e => exact hq.elim
  | ok fl =>
    cases fl with
    | ret u => exact I2.after hq
    | next => exact False.elim hq
    | brk => exact False.elim hq
    | cont => exact False.elim hq
end
end Q8

namespace Q8
open PySem PySem.Spec PyProof.Rows L2 StX TL RZ
/-! ### copies -/
/-- Node(e, *parts) -/
theorem pe_nodeS {X : Cx} {n k : Nat} {C f : Addr} {e : Expr} {es : List Expr} {t : TA} {p pos : Pos} (M : Mk X.K C f) (F : FnR X.prog X.w X.K X.mg X.base CX0 k f (spIni n C)) (hr : Room (k + 1) X.A) (hg : Gl X "Node") (hm : X.mg "Node" = some (.ref C)) (ha : PA X (e :: es) t)
    (he : starEach (e :: es) X.env = (false, eval e X.env) :: starEach es X.env := by rfl) (hst : (backTo pos (starEach es X.env)).any (·.1) = true := by rfl) : PE X (.Call (.Name "Node" p) (e :: es) [] pos) (tNode n C t) := by
  refine ⟨fun pins s σ H Q I h => ?_⟩
  refine wpAny_Call_Name_kw (ld_glob I hg hm ?_ (by decide))
  refine PySem.W.callWith_S2 (h₀ := X.base) I.ok.mod.kin M.kp (thn (ha.run pos pins s σ H _ I h) fun us s1 ⟨vs, H1, I1, r, q⟩ => ⟨I1.kIn, ?_⟩) he hst
  obtain ⟨kd, rs, parts, rfl, hk, hl, hn, q⟩ := q
  refine run_makeR (E := E0) M F hr pass0 I1 r fun x dx nx ndx hd => ⟨[.ref x, .str kd], parts, rfl, rfl, ?_, fun tp dm nt nm hm' => ?_⟩
  · have := rows_small hk
    have z : (1000 : Nat) < sizeLine := by decide
    omega
  exact spIniB_of nx ndx hd nt nm hm' allAt_nil (Nat.zero_le 4) hk hl hn fun H2 d ds N => q H2 x d ds N
abbrev sWp : Stmt := topS 21
theorem scWp : FnScope ["node", "parts", "new"] ["node", "parts"] (defScope sWp) := ⟨rfl, rfl, rfl, by decide +kernel, rfl, by decide +kernel, by decide +kernel⟩
def spWp (C : Addr) : Sp := fun vs H Q _ => ∃ (p dx dn l : Addr) (kd : Str) (m : List (Key × V)) (rs : List (Str × Str × Str)) (xs : List V), vs = [.ref p, .ref l] ∧ H p = some (.ins C dx (nodeFs kd m dn)) ∧ Fld.lookup kd = some rs ∧ H l = some (.lst xs) ∧ xs.length = rs.length ∧
  ∀ (H' : Hp) (q dq : Addr) (fs : List (Str × V)), Same H H' → H' q = some (.ins C dq fs) → fs.lookup ("kind" : Str) = some (.str kd) → Q (.ref q) H'
section
variable {P : Program} {w : World} {K : PySem.W.Frag} {mg : Str → Option Value} {base : Heap} {C : Addr}
theorem ok_wp {f fN : Addr} {fd : FuncData} (F : Fun K "with_parts" "with_parts" sWp f fd) (Nf : NodeF K C) (MK : Mk K C fN) (mN : mg "Node" = some (.ref C)) (NI : FnR P w K mg base CX0 5 fN (spIni 1 C)) : FnOk P w K mg base CX0 7 f fd ["node", "parts"] (spWp C) := by
  refine F.ok scWp (fun vs H Q E h => ?_) (fun cdv A outer s H vs Q E hr h => ?_)
  · obtain ⟨p, dx, dn, l, kd, m, rs, xs, rfl, _⟩ := h
    rfl
  obtain ⟨p, dx, dn, l, kd, m, rs, xs, rfl, hp, row, hl, hx, q⟩ := h
  refine ⟨_, (pss_cons (ps_set (i := 2) scWp.nd rfl (.inl rfl) (pe_nodeS MK NI hr rfl mN (pa_cons (pe_fld (pv 0) rfl) (pa_star (pv 1) pa_nil))))
    (pss_cons (ps_fld (pv 2) (pe_fld (pv 0) rfl) rfl)
    (pss_cons (ps_fld (pv 2) (pe_fld (pv 0) rfl) rfl)
    (pss_cons (ps_fld (pv 2) (pe_fld (pv 0) rfl) rfl)
    (pss_cons (ps_fld (pv 2) (pe_fld (pv 0) rfl) rfl)
    (pss_one (ps_ret (pv 2)))))))), ?_⟩
  refine ⟨_, rfl, p, C, dx, _, .str kd, rfl, hp, Nf.cl, Nf.n1, rfl, _, rfl, l, xs, rfl, .inr (SqL.of hl), ?_⟩
  refine ⟨kd, rs, xs ++ [], rfl, row, by rw [List.append_nil]; omega, .inl rfl, fun H1 x dm ds N => ?_⟩
  obtain ⟨dq, hx1⟩ := N.at_
  have nx : H x = none := N.np
  have px : p ≠ x := ne_of_none hp nx
  have hp1 := N.sm _ _ hp
  have s1 : ∀ b o, b ≠ x → H1 b = some o → H1 b = some o := fun _ _ _ e => e
  refine ⟨_, rfl, p, C, dx, _, _, rfl, hp1, Nf.cl, Nf.n2, rfl, _, rfl, x, C, dq, _, rfl, hx1, Nf.cl, Nf.n2, by show 6 < 1000; decide, ?_⟩
  refine ⟨_, rfl, p, C, dx, _, _, rfl, by rw [upd_ne px]; exact hp1, Nf.cl, Nf.n3, rfl, _, rfl, x, C, dq, _, rfl, upd_same, Nf.cl, Nf.n3, by show 6 < 1000; decide, ?_⟩
  refine ⟨_, rfl, p, C, dx, _, _, rfl, by rw [upd_ne px, upd_ne px]; exact hp1, Nf.cl, Nf.n4, rfl, _, rfl, x, C, dq, _, rfl, upd_same, Nf.cl, Nf.n4, by show 6 < 1000; decide, ?_⟩
  refine ⟨_, rfl, p, C, dx, _, _, rfl, by rw [upd_ne px, upd_ne px, upd_ne px]; exact hp1, Nf.cl, Nf.n5, rfl, _, rfl, x, C, dq, _, rfl, upd_same, Nf.cl, Nf.n5, by show 6 < 1000; decide, ?_⟩
  refine ⟨_, rfl, q _ x dq _ (fun b o e => ?_) upd_same rfl⟩
  have n := ne_of_none e nx
  rw [upd_ne n, upd_ne n, upd_ne n, upd_ne n]
  exact N.sm _ _ e
abbrev sCo : Stmt := topS 20
theorem scCo : FnScope ["value", "item", "name", "_"] ["value"] (defScope sCo) := ⟨rfl, rfl, rfl, by decide +kernel, rfl, by decide +kernel, by decide +kernel⟩
/-- what is no list, no node, is its own copy -/
def spCo (K : PySem.W.Frag) (C : Addr) : Sp := fun vs H Q _ => ∃ (v : V) (t : Value), vs = [v] ∧ TyX K H v t ∧ PySem.W.kitOne K t (.ref C) = some false ∧ PySem.W.kitOne K t (.type "list") = some false ∧ Q v H
theorem ok_co {f : Addr} {fd : FuncData} (F : Fun K "copied" "copied" sCo f fd) (Z : Blt mg) (mN : mg "Node" = some (.ref C)) : FnOk P w K mg base CX0 1 f fd ["value"] (spCo K C) := by
  refine F.ok scCo (fun vs H Q E h => ?_) (fun cdv A outer s H vs Q E hr h => ?_)
  · obtain ⟨v, t, rfl, _⟩ := h
    rfl
  obtain ⟨v, t, rfl, h1, h2, h3, q⟩ := h
  refine ⟨_, (pss_cons (ps_if (pt_val (pe_callB call_isi (by rfl) Z.isI (by decide +kernel) (pa_cons (pv 0) (pa_cons (pe_bltn (v := .ty "list") (by rfl) Z.ls (by decide +kernel) rfl) pa_nil)))) (pss_one ps_no) pss_nil)
    (pss_cons (ps_if (pt_not (pt_val (pe_callB call_isi (by rfl) Z.isI (by decide +kernel) (pa_cons (pv 0) (pa_cons (pe_glob (v := .ref C) rfl mN rfl) pa_nil))))) (pss_one (ps_ret (pv 0))) pss_nil)
    (pss_one ps_no))), ?_⟩
  refine ⟨_, rfl, v, .ty "list", _, _, _, rfl, .ty _, h1, h3, _, rfl, iteF ?_⟩
  exact ⟨_, rfl, v, .ref C, _, _, _, rfl, .own _, h1, h2, _, rfl, iteT ⟨_, rfl, q⟩⟩
end
end Q8

namespace Q8
open PySem PySem.Spec PyProof.Rows L2 StX TL RZ
/-! ### which answers of a handler are bad at a field -/
def badB (h : Str) (w : Nat) : Bool := if decide (w < 14) || decide (h = "") then decide (w < 18) else match endC h with
  | none => false
  | some c => if decide (c ∈ ("*+" : Str).cps.toList) then false else (decide (w = 15) || (decide (w = 16) || decide (w = 17))) || (decide (w = 14) && !decide (V.str ⟨#[c]⟩ = V.str "?"))
abbrev sIb : Stmt := topS 50
theorem scIb : FnScope ["_law_what", "_law_way"] ["_law_what", "_law_way"] (defScope sIb) := ⟨rfl, rfl, rfl, by decide +kernel, rfl, by decide +kernel, by decide +kernel⟩
def spIb : Sp := fun vs H Q _ => ∃ (h : Str) (w : Nat), vs = [.str h, .int (w : Int)] ∧ w < 19 ∧ h.length ≤ 100 ∧ (h = "" ∨ ∃ c, endC h = some c) ∧ ∀ H', Same H H' → Q (.bl (badB h w)) H'
section
variable {P : Program} {w : World} {K : PySem.W.Frag} {mg : Str → Option Value} {base : Heap} {C : Addr}
theorem ok_ib {f : Addr} {fd : FuncData} (F : Fun K "_law_is_bad" "_law_is_bad" sIb f fd) : FnOk P w K mg base CX0 1 f fd ["_law_what", "_law_way"] spIb := by
  refine F.ok scIb (fun vs H Q E h => ?_) (fun cdv A outer s H vs Q E hr h => ?_)
  · obtain ⟨h, w, rfl, _⟩ := h
    rfl
  obtain ⟨h, w, rfl, hw, hl, he, q⟩ := h
  have zS : (100 : Nat) ≤ sizeLine := by decide
  refine ⟨_, (C8.pss_cut (ps_if (PW.pt (pw_or (pt_cmpR op_lt (pv 1) pe_int (nomark _)) (pw_or1 (pt_cmpR op_eq (pv 0) pe_str (nomark _))))) (pss_one (ps_ret (pe_cmpR op_lt (pv 1) pe_int (nomark _)))) pss_nil)
    (C8.pss_cut (ps_if (pt_cmpR op_in_sign (pe_ix ix_str (pv 0) (pe_un un_neg pe_int) (fun _ _ => rfl)) pe_str (by rfl)) (pss_one (ps_ret pe_bl)) pss_nil)
    (pss_one (ps_ret (pe_or (pe_cmpR op_in_seq (pv 1) (pe_tup (pa_cons pe_int (pa_cons pe_int (pa_cons pe_int pa_nil)))) (by rfl)) (pe_one (pe_and (pe_cmpR op_eq (pv 1) pe_int (nomark _)) (pe_one (pe_cmpR op_ne (pe_ix ix_str (pv 0) (pe_un un_neg pe_int) (fun _ _ => rfl)) pe_str (nomark _)))))))))), ?_⟩
  have strD : ∀ x y : Str, decide (V.str x = V.str y) = decide (x = y) := fun x y => by
    rw [Bool.eq_iff_iff]
    simp
  have lt14 : ∀ n : Nat, decide ((w : Int) < (n : Int)) = decide (w < n) := fun n => by
    rw [Bool.eq_iff_iff]
    simp
  refine ⟨fun σ H1 => σ = [some (.str h), some (.int (w : Int))] ∧ H = H1 ∧ decide (w < 14) = false ∧ decide (h = "") = false, ?_, ?_⟩
  · have early : (decide (w < 14) || decide (h = "")) = true → Q (.bl (decide ((w : Int) < 18))) H := fun z => by
      have y := q H (Same.refl H)
      unfold badB at y
      rw [if_pos z] at y
      rw [show (18 : Int) = ((18 : Nat) : Int) from rfl, lt14]
      exact y
    refine ⟨_, rfl, _, _, rfl, rfl, _, rfl, ?_⟩
    rw [show decide ((w : Int) < 14) = decide (w < 14) from lt14 14]
    cases c : decide (w < 14) with
    | true =>
      refine iteT ?_
      exact iteT ⟨_, rfl, _, _, rfl, rfl, early (by rw [c]; rfl)⟩
    | false =>
      refine iteF ?_
      refine ⟨_, rfl, rfl, _, rfl, ?_⟩
      rw [strD]
      cases c2 : decide (h = "") with
      | true => exact iteT ⟨_, rfl, _, _, rfl, rfl, early (by rw [c2, Bool.or_true])⟩
      | false => exact iteF ⟨rfl, rfl, rfl, rfl⟩
  rintro σ H1 ⟨rfl, rfl, c1, c2⟩
  have hne : h ≠ "" := of_decide_eq_false c2
  obtain ⟨ch, hc⟩ := he.resolve_left hne
  have hat : atI h.cps.toList (-1) = some ch := hc
  have eb : badB h w = if decide (ch ∈ ("*+" : Str).cps.toList) then false else (decide (w = 15) || (decide (w = 16) || decide (w = 17))) || (decide (w = 14) && !decide (V.str ⟨#[ch]⟩ = V.str "?")) := by
    unfold badB
    rw [if_neg (by rw [c1, c2]; decide), hc]
  rw [eb] at q
  refine ⟨fun σ H2 => σ = [some (.str h), some (.int (w : Int))] ∧ H = H2 ∧ decide (ch ∈ ("*+" : Str).cps.toList) = false, ?_, ?_⟩
  · refine ⟨_, rfl, _, rfl, h, -1, ch, rfl, rfl, by omega, hat, ch, _, rfl, rfl, _, rfl, ?_⟩
    cases cs : decide (ch ∈ ("*+" : Str).cps.toList) with
    | true =>
      rw [cs, if_pos rfl] at q
      exact iteT (q H (Same.refl H))
    | false => exact iteF ⟨rfl, rfl, rfl⟩
  rintro σ H2 ⟨rfl, rfl, cs⟩
  rw [cs, if_neg (by decide)] at q
  refine ⟨_, rfl, by show 3 ≤ sizeLine; decide, fun t nt => ?_⟩
  have s1 := same_new (o := .tup [.int 15, .int 16, .int 17]) nt
  refine ⟨t, _, rfl, .inr (SqT.of upd_same), rfl, rfl, ?_⟩
  have q := q _ s1
  generalize upd H t (.tup [.int 15, .int 16, .int 17]) = H1 at q ⊢
  have w14 : 14 ≤ w := by
    have := of_decide_eq_false c1
    omega
  have hw5 : w = 14 ∨ w = 15 ∨ w = 16 ∨ w = 17 ∨ w = 18 := by omega
  rcases hw5 with rfl | rfl | rfl | rfl | rfl
  · refine ⟨_, rfl, iteF ?_⟩
    refine ⟨_, rfl, rfl, _, rfl, iteT ?_⟩
    refine ⟨_, rfl, _, rfl, h, -1, ch, rfl, rfl, by omega, hat, rfl, ?_⟩
    exact q
  · exact ⟨_, rfl, iteT q⟩
  · exact ⟨_, rfl, iteT q⟩
  · exact ⟨_, rfl, iteT q⟩
  · exact ⟨_, rfl, iteF ⟨_, rfl, rfl, _, rfl, iteF q⟩⟩
end
end Q8

namespace Q8
open PySem PySem.Spec PyProof.Rows L2 StX TL RZ
/-! ### the handler's calls, in order -/
abbrev Ctx3 : Type := Str × Str × Str
mutual
/-- the models of a kind, below ahead of above, each with the kind and the field around it -/
def MT.cl (kd : Str) : MT → Str → Str → Str → List Ctx3
  | .md _ _ _ k ps, a, n, w => clF kd k ps (fieldsP k) ++ (if k = kd then [(a, n, w)] else [])
  | .at_ _, _, _, _ => []
  | .ls _ ms, a, n, w => clI kd ms a n w
  | .tu _ _, _, _, _ => []
def clF (kd k : Str) : List MT → List (List Str) → List Ctx3
  | [], _ => []
  | _ :: _, [] => []
  | p :: ps, fp :: fs => p.cl kd k (fp.headD "") (fp.getD 1 "") ++ clF kd k ps fs
def clI (kd : Str) : List MT → Str → Str → Str → List Ctx3
  | [], _, _, _ => []
  | m :: r, a, n, w => (if isMd m then m.cl kd a n w else []) ++ clI kd r a n w
end
theorem cl_md {kd : Str} {d pl sp : Addr} {k a n w : Str} {ps : List MT} : (MT.md d pl sp k ps).cl kd a n w = clF kd k ps (fieldsP k) ++ (if k = kd then [(a, n, w)] else []) := by rw [MT.cl]
theorem cl_at {kd : Str} {v : V} {a n w : Str} : (MT.at_ v).cl kd a n w = [] := by rw [MT.cl]
theorem cl_ls {kd : Str} {l : Addr} {a n w : Str} {ms : List MT} : (MT.ls l ms).cl kd a n w = clI kd ms a n w := by rw [MT.cl]
theorem cl_tu {kd : Str} {l : Addr} {a n w : Str} {ms : List MT} : (MT.tu l ms).cl kd a n w = [] := by rw [MT.cl]
theorem clF_cons {kd k : Str} {p : MT} {ps : List MT} {fp : List Str} {fs : List (List Str)} : clF kd k (p :: ps) (fp :: fs) = p.cl kd k (fp.headD "") (fp.getD 1 "") ++ clF kd k ps fs := by rw [clF]
theorem clF_nil {kd k : Str} {fs : List (List Str)} : clF kd k [] fs = [] := by rw [clF]
theorem clF_nil2 {kd k : Str} {p : MT} {ps : List MT} : clF kd k (p :: ps) [] = [] := by rw [clF]
theorem clI_cons {kd : Str} {m : MT} {r : List MT} {a n w : Str} : clI kd (m :: r) a n w = (if isMd m then m.cl kd a n w else []) ++ clI kd r a n w := by rw [clI]
theorem clI_nil {kd a n w : Str} : clI kd [] a n w = [] := by rw [clI]
/-- no more than there are models -/
theorem cl_len (kd : Str) : ∀ (n : Nat), (∀ m : MT, m.hgt < n → ∀ a b c, (m.cl kd a b c).length ≤ m.mds.length) ∧ (∀ ms : List MT, hgtL ms < n → (∀ a b c, (clI kd ms a b c).length ≤ (mdsL ms).length) ∧ ∀ k fs, (clF kd k ms fs).length ≤ (mdsL ms).length)
  | 0 => ⟨fun m h => by omega, fun ms h => by omega⟩
  | n + 1 => by
    obtain ⟨h1, h2⟩ := cl_len kd n
    have one : ∀ m : MT, m.hgt < n + 1 → ∀ a b c, (m.cl kd a b c).length ≤ m.mds.length := fun m hm a b c => by
      cases m with
      | md d pl sp k ps =>
        rw [hgt_md] at hm
        rw [cl_md, mds_md, List.length_append, List.length_cons]
        have z := (h2 ps (by omega)).2 k (fieldsP k)
        split
        · show _ + 1 ≤ _
          omega
        · show _ + 0 ≤ _
          omega
      | at_ v => rw [cl_at]; exact Nat.zero_le _
      | ls l ms =>
        rw [hgt_ls] at hm
        rw [cl_ls, mds_ls]
        exact (h2 ms (by omega)).1 a b c
      | tu l ms => rw [cl_tu]; exact Nat.zero_le _
    refine ⟨one, fun ms => ?_⟩
    induction ms with
    | nil => exact fun _ => ⟨fun a b c => by rw [clI_nil]; exact Nat.zero_le _, fun k fs => by rw [clF_nil]; exact Nat.zero_le _⟩
    | cons m r ih =>
      intro hm
      rw [hgtL_cons] at hm
      have z := ih (by omega)
      have y := one m (by omega)
      refine ⟨fun a b c => ?_, fun k fs => ?_⟩
      · rw [clI_cons, mdsL_cons, List.length_append, List.length_append]
        have := z.1 a b c
        have := y a b c
        split
        · omega
        · show 0 + _ ≤ _
          omega
      · cases fs with
        | nil => rw [clF_nil2]; exact Nat.zero_le _
        | cons fp fs =>
          rw [clF_cons, mdsL_cons, List.length_append, List.length_append]
          have := z.2 k fs
          have := y k (fp.headD "") (fp.getD 1 "")
          omega
/-- a list of such triples -/
def CallsAt (H : Hp) (l : Addr) (cs : List Ctx3) : Prop := ∃ ts : List Addr, H l = some (.lst (ts.map V.ref)) ∧ ts.length = cs.length ∧ ∀ (i : Nat) t c, ts[i]? = some t → cs[i]? = some c → H t = some (.tup [.str c.1, .str c.2.1, .str c.2.2])
theorem CallsAt.up {H H' : Hp} {l : Addr} {cs : List Ctx3} (h : CallsAt H l cs) (s : Same H H') : CallsAt H' l cs := by
  obtain ⟨ts, h1, h2, h3⟩ := h
  exact ⟨ts, s _ _ h1, h2, fun i t c e1 e2 => s _ _ (h3 i t c e1 e2)⟩
theorem CallsAt.app {H : Hp} {R : Addr} {c1 c2 : List Ctx3} {ts1 ts2 : List Addr} (a1 : ts1.length = c1.length) (b1 : ∀ (i : Nat) t c, ts1[i]? = some t → c1[i]? = some c → H t = some (.tup [.str c.1, .str c.2.1, .str c.2.2]))
    (a2 : ts2.length = c2.length) (b2 : ∀ (i : Nat) t c, ts2[i]? = some t → c2[i]? = some c → H t = some (.tup [.str c.1, .str c.2.1, .str c.2.2])) (hR : H R = some (.lst (ts1.map V.ref ++ ts2.map V.ref))) : CallsAt H R (c1 ++ c2) := by
  refine ⟨ts1 ++ ts2, by rw [List.map_append]; exact hR, by rw [List.length_append, List.length_append, a1, a2], fun i t c e1 e2 => ?_⟩
  by_cases z : i < ts1.length
  · rw [List.getElem?_append_left z] at e1
    rw [List.getElem?_append_left (by omega)] at e2
    exact b1 i t c e1 e2
  · rw [List.getElem?_append_right (by omega)] at e1
    rw [List.getElem?_append_right (by omega), ← a1] at e2
    exact b2 _ t c e1 e2
end Q8

namespace Q8
open PySem PySem.Spec PyProof.Rows L2 StX TL RZ
abbrev sCa : Stmt := topS 49
theorem scCa : FnScope ["_law_model_here", "_law_around", "_law_name", "_law_what", "_law_kind", "_law_found", "_law_fields_here", "_law_k", "_law_part_here", "_law_one"] ["_law_model_here", "_law_around", "_law_name", "_law_what", "_law_kind"] (defScope sCa) := ⟨rfl, rfl, rfl, by decide +kernel, rfl, by decide +kernel, by decide +kernel⟩
def spCa (Cs : Nat → Addr) (n : Nat) : Sp := fun vs H Q _ => ∃ (nd : Addr → Option Addr) (m : MT) (a nm wh kd : Str), vs = [m.val, .str a, .str nm, .str wh, .str kd] ∧ isMd m = true ∧ MAt Cs nd H m ∧ m.hgt < n ∧ m.mds.length ≤ 100000 ∧ ∀ (H' : Hp) (l : Addr), Same H H' → CallsAt H' l (m.cl kd a nm wh) → Q (.ref l) H'
def itsM : MT → List MT
  | .ls _ ms => ms
  | m => [m]
theorem its_one {p : MT} (h : isLs p = false) : itsM p = [p] := by
  cases p with
  | ls l ms => cases h
  | _ => rfl
theorem its_mds {p : MT} : mdsL (itsM p) = p.mds := by
  cases p with
  | ls l ms => rw [mds_ls]; rfl
  | _ =>
    show mdsL [_] = _
    rw [mdsL_cons, mdsL_nil, List.append_nil]
theorem mds_le : ∀ {ms : List MT} {m : MT}, m ∈ ms → m.mds.length ≤ (mdsL ms).length
  | x :: r, m, h => by
    rw [mdsL_cons, List.length_append]
    rcases List.mem_cons.mp h with rfl | h
    · omega
    · have := mds_le h
      omega
theorem its_mem {Cs : Nat → Addr} {nd : Addr → Option Addr} {H : Hp} {p x : MT} (h : x ∈ itsM p) : (MAt Cs nd H p → MAt Cs nd H x) ∧ x.hgt ≤ p.hgt ∧ x.mds.length ≤ p.mds.length := by
  cases p with
  | ls l ms =>
    have h : x ∈ ms := h
    refine ⟨fun a => ?_, ?_, ?_⟩
    · cases a with
      | ls _ _ hs => exact hs.mem x h
    · rw [hgt_ls]
      have := hgtL_mem h
      omega
    · rw [mds_ls]
      exact mds_le h
  | _ =>
    rw [List.mem_singleton.mp h]
    exact ⟨id, Nat.le_refl _, Nat.le_refl _⟩
theorem cl_its {kd : Str} {p : MT} {a n w : Str} : p.cl kd a n w = clI kd (itsM p) a n w := by
  cases p with
  | ls l ms => rw [cl_ls]; rfl
  | md d pl sp k ps =>
    show _ = clI kd [MT.md d pl sp k ps] a n w
    rw [clI_cons, clI_nil, List.append_nil]
    rfl
  | at_ v =>
    show _ = clI kd [MT.at_ v] a n w
    rw [clI_cons, clI_nil, List.append_nil, cl_at]
    rfl
  | tu l ms =>
    show _ = clI kd [MT.tu l ms] a n w
    rw [clI_cons, clI_nil, List.append_nil, cl_tu]
    rfl
theorem clI_snoc {kd : Str} {m : MT} {a n w : Str} : ∀ {ms : List MT}, clI kd (ms ++ [m]) a n w = clI kd ms a n w ++ (if isMd m then m.cl kd a n w else [])
  | [] => by rw [List.nil_append, clI_cons, clI_nil, List.append_nil]; rfl
  | x :: r => by rw [List.cons_append, clI_cons, clI_snoc, clI_cons, List.append_assoc]
theorem clF_snoc {kd k : Str} : ∀ {ps : List MT} {fs : List (List Str)} {i : Nat} {p : MT} {fp : List Str}, ps[i]? = some p → fs[i]? = some fp → clF kd k (ps.take (i + 1)) fs = clF kd k (ps.take i) fs ++ p.cl kd k (fp.headD "") (fp.getD 1 "")
  | [], _, i, p, fp, h, _ => by simp at h
  | _ :: _, [], i, p, fp, _, h => by simp at h
  | x :: r, f :: fs, 0, p, fp, h1, h2 => by
    cases h1
    cases h2
    rw [List.take_succ_cons, List.take_zero, List.take_zero, clF_cons, clF_nil, clF_nil, List.append_nil, List.nil_append]
  | x :: r, f :: fs, i + 1, p, fp, h1, h2 => by
    rw [List.take_succ_cons, List.take_succ_cons, clF_cons, clF_cons, clF_snoc (ps := r) (fs := fs) (i := i) h1 h2, List.append_assoc]
theorem no_ca {P : Program} {w : World} {K : PySem.W.Frag} {mg : Str → Option Value} {base : Heap} {Cs : Nat → Addr} {f : Addr} {fd : FuncData} {k : Nat} {ps : List Str} : FnOk P w K mg base CX0 k f fd ps (spCa Cs 0) := by
  have no : ∀ vs H Q E, ¬ spCa Cs 0 vs H Q E := fun vs H Q E h => by
    obtain ⟨nd, m, a, nm, wh, kd, _, _, _, h1, _⟩ := h
    omega
  exact ⟨fun vs H Q E h => absurd h (no vs H Q E), fun A outer s H args us vs Q E _ _ _ _ h => absurd h (no vs H Q E)⟩
section
variable {P : Program} {w : World} {K : PySem.W.Frag} {mg : Str → Option Value} {base : Heap} {C : Addr} {Cs : Nat → Addr}
theorem ok_ca {f fF : Addr} {fd dF : FuncData} (F : Fun K "_law_calls" "_law_calls" sCa f fd) (bC : Binds K fd ["_law_model_here", "_law_around", "_law_name", "_law_what", "_law_kind"] []) (mF : mg "_law_calls" = some (.ref f)) (Z : Blt mg) (zD : mg "dict" = none) (W : ValI K C Cs)
    (FD : FnOk P w K mg base CX0 3 fF dF ["_law_kind"] spFd) (bF : Binds K dF ["_law_kind"] []) (kF : PySem.W.keepIn K (.ref fF) = true) (mFd : mg "_law_fields" = some (.ref fF)) {n k : Nat} (hk : 3 ≤ k)
    (ih : FnOk P w K mg base CX0 k f fd ["_law_model_here", "_law_around", "_law_name", "_law_what", "_law_kind"] (spCa Cs n)) : FnOk P w K mg base CX0 (k + 1) f fd ["_law_model_here", "_law_around", "_law_name", "_law_what", "_law_kind"] (spCa Cs (n + 1)) := by
  refine F.ok scCa (fun vs H Q E h => ?_) (fun cdv A outer s H us Q E hr h => ?_)
  · obtain ⟨nd, m, a, nm, wh, kd, rfl, _⟩ := h
    rfl
  obtain ⟨nd, m, a, nm, wh, kd, rfl, hmd, hm, hh, hlen, q⟩ := h
  have hr3 := hr.mono hk
  have zM : (1000000 : Nat) < sizeLine := by decide
  refine ⟨_, (C8.pss_cut (ps_par (by rfl) scCa.nd (i := 5) (j := 6) rfl rfl (by decide) rfl rfl (pa_cons (pe_lst pa_nil) (pa_cons (pe_call FD hr3 rfl mFd kF bF .nil pass0 (pa_cons (pe_dget (hu_of hr) (pv 0) pe_str (fun _ _ => rfl)) pa_nil)) pa_nil)) (by rfl))
    (C8.pss_cut (ps_for PassesOwn.never rfl (pi_range1 (by rfl) Z.rg (pa_cons (pe_callB call_len_seq rfl Z.ln PySem.boot_len (pa_cons (pv 6) pa_nil)) pa_nil)) (pg_name (i := 7) scCa.nd rfl (.inl rfl)) (pss_cons (ps_set (i := 8) scCa.nd rfl (.inl rfl) (pe_ix ix_list (pe_dget (hu_of hr) (pv 0) pe_str (fun _ _ => rfl)) (pv 7) (fun _ _ => rfl)))
    (pss_one (ps_for PassesOwn.never rfl (pi_list (pe_ifExp (pt_val (pe_callB call_isi (by rfl) Z.isI (by decide +kernel) (pa_cons (pv 8) (pa_cons (pe_bltn (v := .ty "list") (by rfl) Z.ls (by decide +kernel) rfl) pa_nil)))) (pv 8) (pe_lst (pa_cons (pv 8) pa_nil)))) (pg_name (i := 9) scCa.nd rfl (.inl rfl)) (pss_one (ps_if (pt_val (pe_callB call_isi (by rfl) Z.isI (by decide +kernel) (pa_cons (pv 9) (pa_cons (pe_bltn (v := .ty "dict") (by rfl) zD (by decide +kernel) rfl) pa_nil)))) (pss_one (ps_set (i := 5) scCa.nd rfl (.inl rfl) (pe_op op_cat (pv 5) (pe_call ih hr rfl mF F.kp bC .nil pass0 (pa_cons (pv 9) (pa_cons (pe_dget (hu_of hr) (pv 0) pe_str (fun _ _ => rfl)) (pa_cons (pe_ix ix_tup (pe_ix ix_list (pv 6) (pv 7) (fun _ _ => rfl)) pe_int (fun _ _ => rfl)) (pa_cons (pe_ix ix_tup (pe_ix ix_list (pv 6) (pv 7) (fun _ _ => rfl)) pe_int (fun _ _ => rfl)) (pa_cons (pv 4) pa_nil))))))))) pss_nil))))))
    (pss_one (ps_ret (pe_op op_cat (pv 5) (pe_op op_rep (pe_lst (pa_cons (pe_tup (pa_cons (pv 1) (pa_cons (pv 2) (pa_cons (pv 3) pa_nil)))) pa_nil)) (pe_callTy call_int1 (by rfl) Z.it (by decide +kernel) (pa_cons (pe_cmpR op_eq (pe_dget (hu_of hr) (pv 0) pe_str (fun _ _ => rfl)) (pv 4) (nomark _)) pa_nil)))))))), ?_⟩
  cases m with
  | at_ v => cases hmd
  | ls a ps => cases hmd
  | tu a ps => cases hmd
  | md d pl sp kk ps =>
  cases hm with
  | @md _ _ _ _ _ sx h1 h2 h3 h4 h5 h6 h7 h8 =>
  rw [hgt_md] at hh
  rw [mds_md, List.length_cons] at hlen
  obtain ⟨rs, row⟩ := Option.isSome_iff_exists.mp h6
  obtain ⟨okr, same⟩ := fields_row row
  have gk : ∀ {Hx : Hp}, Same H Hx → DGet Hx d (.str "kind") (some (.str kk)) := fun s => by
    have z := DGet.k (k := Sum.inr "kind") (s _ _ h1)
    rw [show valV (mdKv kk pl sp (nd d)) (Sum.inr "kind") = some (V.str kk) from by unfold mdKv; cases nd d <;> rfl] at z
    exact z
  have gp : ∀ {Hx : Hp}, Same H Hx → DGet Hx d (.str "parts") (some (.ref pl)) := fun s => by
    have z := DGet.k (k := Sum.inr "parts") (s _ _ h1)
    rw [show valV (mdKv kk pl sp (nd d)) (Sum.inr "parts") = some (V.ref pl) from by unfold mdKv; cases nd d <;> rfl] at z
    exact z
  have lnF : ∀ i, (clF kd kk (ps.take i) (fieldsP kk)).length ≤ 100000 := fun i => by
    have z := ((cl_len kd (hgtL (ps.take i) + 1)).2 (ps.take i) (Nat.lt_succ_self _)).2 kk (fieldsP kk)
    have y := (mdsL_take (ms := ps) i).length_le
    omega
  refine ⟨fun σ H2 => ∃ lf fl, σ = [some (.ref d), some (.str a), some (.str nm), some (.str wh), some (.str kd), some (.ref lf), some (.ref fl), none, none, none] ∧ Same H H2 ∧ CallsAt H2 lf [] ∧ ∃ H1, FdsAt H1 H2 fl (fieldsP kk), ?_, ?_⟩
  · refine ⟨by show 0 ≤ sizeLine; exact Nat.zero_le _, fun lf nlf => ?_⟩
    have s1 := same_new (o := .lst []) nlf
    refine ⟨_, rfl, d, _, rfl, gk s1, kk, rfl, okr, fun H2 fl s2 fa => ⟨_, _, rfl, lf, fl, rfl, s1.trans s2, ⟨[], s2 _ _ upd_same, rfl, fun i t c e => (by simp at e)⟩, _, fa⟩⟩
  rintro σ H2 ⟨lf0, fl, rfl, s2, ca0, H1, nfl, as, hfl, las, hat⟩
  refine ⟨fun σ H3 => ∃ (lf : Addr) (x7 x8 x9 : Option V), σ = [some (.ref d), some (.str a), some (.str nm), some (.str wh), some (.str kd), some (.ref lf), some (.ref fl), x7, x8, x9] ∧ Same H2 H3 ∧ CallsAt H3 lf (clF kd kk ps (fieldsP kk)), ?_, ?_⟩
  · refine ⟨_, rfl, fl, _, rfl, .inl (SqL.of hfl), ?_⟩
    have hs7 := rows_small row
    have rl := sameRow_len same
    refine ⟨_, rfl, by rw [List.length_map]; omega, by rw [List.length_map]; omega, ?_⟩
    refine for_range (lo := 0) (n := ((as.map V.ref).length : Int).toNat) (fun i σ H3 => ∃ (lf : Addr) (x7 x8 x9 : Option V), σ = [some (.ref d), some (.str a), some (.str nm), some (.str wh), some (.str kd), some (.ref lf), some (.ref fl), x7, x8, x9] ∧ Same H2 H3 ∧ CallsAt H3 lf (clF kd kk (ps.take i) (fieldsP kk))) ⟨lf0, none, none, none, rfl, Same.refl _, by rw [List.take_zero, clF_nil]; exact ca0⟩ ?_ ?_
    · rintro i σ H3 hi ⟨lf, x7, x8, x9, rfl, s3, ca⟩
      have hi7 : i < as.length := by rw [List.length_map] at hi; omega
      obtain ⟨p, hp⟩ : ∃ p, ps[i]? = some p := ⟨_, List.getElem?_eq_getElem (by omega)⟩
      obtain ⟨b, hb⟩ : ∃ b, as[i]? = some b := ⟨_, List.getElem?_eq_getElem hi7⟩
      obtain ⟨fp, hfp⟩ : ∃ fp, (fieldsP kk)[i]? = some fp := ⟨_, List.getElem?_eq_getElem (by omega)⟩
      obtain ⟨nb, hb2⟩ := hat i b fp hb hfp
      obtain ⟨nm', hd', r, rfl, hr', enm⟩ := sameRow_at same hfp
      have sx := s2.trans s3
      have pA := h8.mem p (List.mem_of_getElem? hp)
      have pg := hgtL_at hp
      have hps : (ps.map MT.val)[i]? = some p.val := by rw [List.getElem?_map, hp]; rfl
      have ecl := clF_snoc (kd := kd) (k := kk) hp hfp
      rw [show ([nm', hd'] : List Str).headD "" = nm' from rfl, show ([nm', hd'] : List Str).getD 1 "" = hd' from rfl, cl_its] at ecl
      refine ⟨_, rfl, d, _, rfl, gp sx, _, rfl, pl, _, _, _, rfl, rfl, SqL.of (sx _ _ h2), (by rw [Int.zero_add]; exact atI_nat hps), ?_⟩
      obtain ⟨ty, t1, t2, t3, t4⟩ := (pA.up sx).tyT W
      -- the items of the part
      have turn : ∀ (x : MT), x ∈ itsM p → MAt Cs nd H x ∧ x.hgt < n ∧ x.mds.length ≤ 100000 := fun x hx => by
        obtain ⟨z1, z2, z3⟩ := its_mem (Cs := Cs) (nd := nd) (H := H) hx
        have z4 := mds_le (List.mem_of_getElem? hp)
        exact ⟨z1 pA, by omega, by omega⟩
      have pml := mds_le (List.mem_of_getElem? hp)
      refine ⟨_, rfl, p.val, .ty "list", _, _, _, rfl, .ty _, t1, t2, _, rfl, ?_⟩
      cases hls : isLs p with
      | true =>
        refine iteT ?_
        obtain ⟨al, eal, hal⟩ : ∃ al, p.val = .ref al ∧ H3 al = some (.lst ((itsM p).map MT.val)) := by
          have z := pA.up sx
          cases z with
          | ls y _ _ => exact ⟨_, rfl, y⟩
          | md _ _ _ _ _ _ _ _ => cases hls
          | at_ _ => cases hls
          | tu _ _ _ => cases hls
        refine ⟨_, rfl, ?_⟩
        rw [eal]
        rw [eal] at hps
        refine ⟨al, rfl, ⟨_, SqL.of hal⟩, ?_⟩
        refine for_list (K := K) (a := al) (xs := (itsM p).map MT.val) (fun j σ H6 => ∃ (lf : Addr) (x9 : Option V), σ = [some (.ref d), some (.str a), some (.str nm), some (.str wh), some (.str kd), some (.ref lf), some (.ref fl), some (.int (0 + (i : Nat))), some (.ref al), x9] ∧ Same H3 H6 ∧ CallsAt H6 lf (clF kd kk (ps.take i) (fieldsP kk) ++ clI kd ((itsM p).take j) kk nm' hd')) ⟨lf, x9, rfl, Same.refl _, by rw [List.take_zero, clI_nil, List.append_nil]; exact ca.up (Same.refl H3)⟩ (fun j σ H6 _ ⟨_, _, _, s6, _⟩ => SqL.of (s6 _ _ hal)) ?_ ?_
        · rintro j x σ H6 hx ⟨lf, x9, rfl, s6, ca6⟩
          rw [List.getElem?_map] at hx
          obtain ⟨mj, hmj, rfl⟩ := Option.map_eq_some_iff.mp hx
          obtain ⟨jA, jh, jl⟩ := turn mj (List.mem_of_getElem? hmj)
          have s36 := Same.trans (Same.refl H3) s6
          have s06 := sx.trans s36
          obtain ⟨ty', u1, u2, u3, u4⟩ := (jA.up s06).tyT W
          have etk : (itsM p).take (j + 1) = (itsM p).take j ++ [mj] := take_snoc hmj
          refine ⟨_, rfl, mj.val, .ty "dict", _, _, _, rfl, .ty _, u1, u3, _, rfl, ?_⟩
          cases hd : isMd mj with
          | false =>
            refine iteF ⟨lf, _, rfl, s6, ?_⟩
            rw [etk, clI_snoc, hd]
            show CallsAt H6 lf (_ ++ (_ ++ []))
            rw [List.append_nil]
            exact ca6
          | true =>
            refine iteT ?_
            obtain ⟨ts, c1, c2, c3⟩ := ca6
            have b1 := ((cl_len kd (hgtL ((itsM p).take j) + 1)).2 ((itsM p).take j) (Nat.lt_succ_self _)).1 kk nm' hd'
            have b2 := (mdsL_take (ms := itsM p) j).length_le
            have b3 := lnF i
            have b4 := (cl_len kd (mj.hgt + 1)).1 mj (Nat.lt_succ_self _) kk nm' hd'
            rw [its_mds] at b2
            rw [List.length_append] at c2
            have hfl6 := s36 _ _ (s3 _ _ hfl)
            have hb6 := s36 _ _ (s3 _ _ hb2)
            have hbm : (as.map V.ref)[i]? = some (.ref b) := by rw [List.getElem?_map, hb]; rfl
            refine ⟨_, rfl, _, rfl, _, rfl, d, _, rfl, gk s06, _, rfl, _, rfl, fl, _, _, _, rfl, rfl, SqL.of hfl6, (by rw [Int.zero_add]; exact atI_nat hbm), b, _, _, _, rfl, rfl, SqT.of hb6, rfl, _, rfl, _, rfl, fl, _, _, _, rfl, rfl, SqL.of hfl6, (by rw [Int.zero_add]; exact atI_nat hbm), b, _, _, _, rfl, rfl, SqT.of hb6, rfl, _, rfl, nd, mj, kk, nm', hd', kd, rfl, hd, jA.up s06, jh, jl, fun H7 l7 s7 ca7 => ?_⟩
            obtain ⟨ts2, d1, d2, d3⟩ := ca7
            refine ⟨lf, l7, _, _, rfl, rfl, s7 _ _ c1, d1, by rw [List.length_map, List.length_map]; omega, fun R nR => ?_⟩
            have s8 := same_new (o := .lst (ts.map V.ref ++ ts2.map V.ref)) nR
            refine ⟨R, _, rfl, s6.trans (s7.trans s8), ?_⟩
            rw [etk, clI_snoc, hd]
            show CallsAt _ R (_ ++ (_ ++ mj.cl kd kk nm' hd'))
            rw [← List.append_assoc]
            exact CallsAt.app (by rw [List.length_append]; exact c2) (fun i t c e1 e2 => s8 _ _ (s7 _ _ (c3 i t c e1 e2))) d2 (fun i t c e1 e2 => s8 _ _ (d3 i t c e1 e2)) upd_same
        · rintro σ H6 ⟨lf, x9, rfl, s6, ca6⟩
          rw [List.length_map, List.take_length] at ca6
          exact ⟨lf, _, _, x9, rfl, s3.trans (Same.trans (Same.refl H3) s6), by rw [ecl]; exact ca6⟩

      | false =>
        refine iteF ?_
        refine ⟨_, rfl, by show 1 ≤ sizeLine; decide, fun LL nLL => ?_⟩
        have s35 := same_new (o := .lst [p.val]) nLL
        have hLL : (upd H3 LL (.lst [p.val])) LL = some (.lst ((itsM p).map MT.val)) := by
          rw [upd_same, its_one hls]
          rfl
        generalize upd H3 LL (.lst [p.val]) = H5 at s35 hLL ⊢
        refine ⟨LL, rfl, ⟨_, SqL.of hLL⟩, ?_⟩
        refine for_list (K := K) (a := LL) (xs := (itsM p).map MT.val) (fun j σ H6 => ∃ (lf : Addr) (x9 : Option V), σ = [some (.ref d), some (.str a), some (.str nm), some (.str wh), some (.str kd), some (.ref lf), some (.ref fl), some (.int (0 + (i : Nat))), some p.val, x9] ∧ Same H5 H6 ∧ CallsAt H6 lf (clF kd kk (ps.take i) (fieldsP kk) ++ clI kd ((itsM p).take j) kk nm' hd')) ⟨lf, x9, rfl, Same.refl _, by rw [List.take_zero, clI_nil, List.append_nil]; exact ca.up s35⟩ (fun j σ H6 _ ⟨_, _, _, s6, _⟩ => SqL.of (s6 _ _ hLL)) ?_ ?_
        · rintro j x σ H6 hx ⟨lf, x9, rfl, s6, ca6⟩
          rw [List.getElem?_map] at hx
          obtain ⟨mj, hmj, rfl⟩ := Option.map_eq_some_iff.mp hx
          obtain ⟨jA, jh, jl⟩ := turn mj (List.mem_of_getElem? hmj)
          have s36 := Same.trans s35 s6
          have s06 := sx.trans s36
          obtain ⟨ty', u1, u2, u3, u4⟩ := (jA.up s06).tyT W
          have etk : (itsM p).take (j + 1) = (itsM p).take j ++ [mj] := take_snoc hmj
          refine ⟨_, rfl, mj.val, .ty "dict", _, _, _, rfl, .ty _, u1, u3, _, rfl, ?_⟩
          cases hd : isMd mj with
          | false =>
            refine iteF ⟨lf, _, rfl, s6, ?_⟩
            rw [etk, clI_snoc, hd]
            show CallsAt H6 lf (_ ++ (_ ++ []))
            rw [List.append_nil]
            exact ca6
          | true =>
            refine iteT ?_
            obtain ⟨ts, c1, c2, c3⟩ := ca6
            have b1 := ((cl_len kd (hgtL ((itsM p).take j) + 1)).2 ((itsM p).take j) (Nat.lt_succ_self _)).1 kk nm' hd'
            have b2 := (mdsL_take (ms := itsM p) j).length_le
            have b3 := lnF i
            have b4 := (cl_len kd (mj.hgt + 1)).1 mj (Nat.lt_succ_self _) kk nm' hd'
            rw [its_mds] at b2
            rw [List.length_append] at c2
            have hfl6 := s36 _ _ (s3 _ _ hfl)
            have hb6 := s36 _ _ (s3 _ _ hb2)
            have hbm : (as.map V.ref)[i]? = some (.ref b) := by rw [List.getElem?_map, hb]; rfl
            refine ⟨_, rfl, _, rfl, _, rfl, d, _, rfl, gk s06, _, rfl, _, rfl, fl, _, _, _, rfl, rfl, SqL.of hfl6, (by rw [Int.zero_add]; exact atI_nat hbm), b, _, _, _, rfl, rfl, SqT.of hb6, rfl, _, rfl, _, rfl, fl, _, _, _, rfl, rfl, SqL.of hfl6, (by rw [Int.zero_add]; exact atI_nat hbm), b, _, _, _, rfl, rfl, SqT.of hb6, rfl, _, rfl, nd, mj, kk, nm', hd', kd, rfl, hd, jA.up s06, jh, jl, fun H7 l7 s7 ca7 => ?_⟩
            obtain ⟨ts2, d1, d2, d3⟩ := ca7
            refine ⟨lf, l7, _, _, rfl, rfl, s7 _ _ c1, d1, by rw [List.length_map, List.length_map]; omega, fun R nR => ?_⟩
            have s8 := same_new (o := .lst (ts.map V.ref ++ ts2.map V.ref)) nR
            refine ⟨R, _, rfl, s6.trans (s7.trans s8), ?_⟩
            rw [etk, clI_snoc, hd]
            show CallsAt _ R (_ ++ (_ ++ mj.cl kd kk nm' hd'))
            rw [← List.append_assoc]
            exact CallsAt.app (by rw [List.length_append]; exact c2) (fun i t c e1 e2 => s8 _ _ (s7 _ _ (c3 i t c e1 e2))) d2 (fun i t c e1 e2 => s8 _ _ (d3 i t c e1 e2)) upd_same
        · rintro σ H6 ⟨lf, x9, rfl, s6, ca6⟩
          rw [List.length_map, List.take_length] at ca6
          exact ⟨lf, _, _, x9, rfl, s3.trans (Same.trans s35 s6), by rw [ecl]; exact ca6⟩

    · rintro σ H3 ⟨lf, x7, x8, x9, rfl, s3, ca⟩
      rw [show ((as.map V.ref).length : Int).toNat = ps.length by rw [List.length_map]; omega, List.take_length] at ca
      exact ⟨lf, x7, x8, x9, rfl, s3, ca⟩
  rintro σ H3 ⟨lf, x7, x8, x9, rfl, s3, ts, c1, c2, c3⟩
  have s03 := s2.trans s3
  have lnA := lnF ps.length
  rw [List.take_length] at lnA
  refine ⟨_, rfl, _, rfl, _, rfl, _, rfl, by show 3 ≤ sizeLine; decide, fun t nt => ⟨by show 1 ≤ sizeLine; decide, fun L nL => ?_⟩⟩
  have s4 := same_new (o := .tup [.str a, .str nm, .str wh]) nt
  have u4 : (upd H3 t (.tup [.str a, .str nm, .str wh])) t = some (.tup [.str a, .str nm, .str wh]) := upd_same
  generalize upd H3 t (.tup [.str a, .str nm, .str wh]) = H4 at s4 u4 nL ⊢
  have s5 := same_new (o := .lst [.ref t]) nL
  have u5 : (upd H4 L (.lst [.ref t])) L = some (.lst [.ref t]) := upd_same
  generalize upd H4 L (.lst [.ref t]) = H5 at s5 u5 ⊢
  have s45 := s4.trans s5
  refine ⟨_, rfl, d, _, rfl, gk (s03.trans s45), _, rfl, rfl, .inr ⟨_, rfl, ?_⟩⟩
  cases eb : decide (V.str kk = V.str kd) with
  | true =>
    have ek : kk = kd := V.str.inj (of_decide_eq_true eb)
    refine ⟨L, 1, _, rfl, rfl, u5, by decide, by decide, by show 1 * 1 ≤ sizeLine; decide, fun R1 nR1 => ?_⟩
    have s6 := same_new (o := .lst (List.replicate (1 : Int).toNat [V.ref t]).flatten) nR1
    have u6 : (upd H5 R1 (.lst (List.replicate (1 : Int).toNat [V.ref t]).flatten)) R1 = some (.lst [.ref t]) := upd_same
    generalize upd H5 R1 (.lst (List.replicate (1 : Int).toNat [V.ref t]).flatten) = H6 at s6 u6 ⊢
    have s36 := s45.trans s6
    refine ⟨lf, R1, _, _, rfl, rfl, s36 _ _ c1, u6, by rw [List.length_map]; show ts.length + 1 ≤ sizeLine; omega, fun R nR => ?_⟩
    have s7 := same_new (o := .lst (ts.map V.ref ++ [.ref t])) nR
    refine q _ R ((s03.trans s36).trans s7) ?_
    rw [cl_md, if_pos ek]
    refine CallsAt.app (ts1 := ts) (ts2 := [t]) c2 (fun i t' c e1 e2 => s7 _ _ (s36 _ _ (c3 i t' c e1 e2))) rfl (fun i t' c e1 e2 => ?_) upd_same
    rcases i with _ | i
    · cases e1; cases e2; exact s7 _ _ (s6 _ _ (s5 _ _ u4))
    · simp at e1
  | false =>
    have ek : kk ≠ kd := fun z => (of_decide_eq_false eb) (by rw [z])
    refine ⟨L, 0, _, rfl, rfl, u5, by decide, by decide, by show 1 * 0 ≤ sizeLine; decide, fun R1 nR1 => ?_⟩
    have s6 := same_new (o := .lst (List.replicate (0 : Int).toNat [V.ref t]).flatten) nR1
    have u6 : (upd H5 R1 (.lst (List.replicate (0 : Int).toNat [V.ref t]).flatten)) R1 = some (.lst []) := upd_same
    generalize upd H5 R1 (.lst (List.replicate (0 : Int).toNat [V.ref t]).flatten) = H6 at s6 u6 ⊢
    have s36 := s45.trans s6
    refine ⟨lf, R1, _, _, rfl, rfl, s36 _ _ c1, u6, by rw [List.length_map]; show ts.length + 0 ≤ sizeLine; omega, fun R nR => ?_⟩
    have s7 := same_new (o := .lst (ts.map V.ref ++ [])) nR
    refine q _ R ((s03.trans s36).trans s7) ?_
    rw [cl_md, if_neg ek]
    exact CallsAt.app (ts1 := ts) (ts2 := []) c2 (fun i t' c e1 e2 => s7 _ _ (s36 _ _ (c3 i t' c e1 e2))) rfl (fun i t' c e1 e2 => (by simp at e1)) upd_same
end
end Q8

namespace Q8
open PySem PySem.Spec PyProof.Rows L2 StX TL
/-! ### BadChange -/
def oexB (K : PySem.W.Frag) (C : Addr) : Bool := match K.lookup C with
  | some o => o.cls == .type "type" && (match o.data with
    | .cls cd => (match cd.mro with
      | c :: bm => c == .ref C && (PySem.HandSPX.refsVE bm && (cd.hasDict && !cd.hasDel))
      | [] => false) && (match o.slots.toList with
        | [_, _, _, _, some z, _] => z == .builtin "ValueError.__new__"
        | _ => false)
    | _ => false)
  | none => false
theorem oexB_ok {K : PySem.W.Frag} {C : Addr} (h : oexB K C = true) : ∃ nm q N bs bm sn sub ab col dd k0 k1 k2 k3 k5, K.lookup C = some (excClassObj nm q C N bs bm true sn sub ab col dd k0 k1 k2 k3 k5 "ValueError.__new__") ∧ PySem.HandSPX.refsVE bm = true := by
  unfold oexB at h
  split at h
  · rename_i o ho
    obtain ⟨oc, od, odt, osl⟩ := o
    obtain ⟨h1, h2⟩ := Bool.and_eq_true_iff.mp h
    have h1 : oc = .type "type" := beq_iff_eq.mp h1
    subst h1
    dsimp only at h2
    split at h2
    · rename_i cd
      obtain ⟨h3, h4⟩ := Bool.and_eq_true_iff.mp h2
      obtain ⟨nm, bs, mro, ns, qn, hd, sn, sub, ab, col, del⟩ := cd
      dsimp only at h3
      split at h3
      · rename_i c bm
        obtain ⟨e1, h3⟩ := Bool.and_eq_true_iff.mp h3
        obtain ⟨e2, h3⟩ := Bool.and_eq_true_iff.mp h3
        obtain ⟨e3, e4⟩ := Bool.and_eq_true_iff.mp h3
        have e1 : c = .ref C := beq_iff_eq.mp e1
        subst e1
        subst e3
        have e4 : del = false := by simpa using e4
        subst e4
        split at h4
        · rename_i k0 k1 k2 k3 z k5 hs
          have ez : z = .builtin "ValueError.__new__" := beq_iff_eq.mp h4
          subst ez
          obtain ⟨l⟩ := osl
          have hs : l = _ := hs
          subst hs
          exact ⟨_, _, _, _, _, _, _, _, _, _, _, _, _, _, _, ho, e2⟩
        · cases h4
      · cases h3
    · cases h2
  · cases h
structure BadC (K : PySem.W.Frag) (mg : Str → Option Value) (CT CB CN fB : Addr) : Prop where
  g : mg "BadChange" = some (.ref CB)
  gT : mg "TreeError" = some (.ref CT)
  gN : mg "BadNode" = some (.ref CN)
  oex : OexC K CB
  ini : PySem.W.findIn K (.ref CB) "__init__" = some (some (.ref fB))
  tyI : PySem.W.typeIn K (.ref fB) = some (.type "function")
  n0 : PySem.W.findIn K (.ref CB) "kind" = some none
  n1 : PySem.W.findIn K (.ref CB) "name" = some none
  xf : XfC K CB
  ex : ExcC K CB
  sm : (PySem.W.clsIn K CB).isSome = true
/-- BadChange.__init__(self, kind, name) -/
def spBc (CB : Addr) : Sp := fun vs H Q _ => ∃ (a : Addr) (y z : V), vs = [.ref a, y, z] ∧ H a = some (exo a CB none) ∧
  ∀ (d : Addr) (H' : Hp), H d = none → d ≠ a → H' a = some (exo a CB (some d)) → H' d = some (exd d [("name", z), ("kind", y)]) → (∀ b, b ≠ a → b ≠ d → H' b = H b) → Q .non H'
abbrev sBc : Stmt := inClass (topS 7) 0
theorem scBc : FnScope ["self", "kind", "name"] ["self", "kind", "name"] (defScope sBc) := ⟨rfl, rfl, rfl, by decide +kernel, rfl, by decide +kernel, by decide +kernel⟩
section
variable {P : Program} {w : World} {K : PySem.W.Frag} {mg : Str → Option Value} {base : Heap} {CT CB CN fB : Addr}
theorem ok_bc {fd : FuncData} (F : Fun K "__init__" "BadChange.__init__" sBc fB fd) (B : BadC K mg CT CB CN fB) : FnOk P w K mg base CX0 1 fB fd ["self", "kind", "name"] (spBc CB) := by
  refine F.ok scBc (fun vs H Q E h => ?_) (fun cdv A outer s H vs Q E hr h => ?_)
  · obtain ⟨a, y, z, rfl, _⟩ := h
    rfl
  obtain ⟨a, y, z, rfl, ha, q⟩ := h
  refine ⟨_, pss_cons (ps_ost (pv 0) (pv 1)) (pss_one (ps_ost (pv 0) (pv 2))), ?_⟩
  refine ⟨_, rfl, _, rfl, a, CB, rfl, B.oex, B.n0, .inl ⟨ha, fun d hd hda => ?_⟩⟩
  refine ⟨_, rfl, _, rfl, a, CB, rfl, B.oex, B.n1, .inr ⟨d, _, upd_same, Eq.trans (upd_ne hda) upd_same, by show 1 ≤ 900; decide, ?_⟩⟩
  exact q d _ hd hda (by rw [upd_ne hda.symm]; exact upd_same) upd_same fun b h1 h2 => by rw [upd_ne h2, upd_ne h1, upd_ne h2]
/-- what raising one comes to -/
theorem bad_fin {H : Hp} {E : XK} {y z : V} (q : ∀ (H' : Hp) (d : Addr), Same H H' → H d = none → H' d = some (.xd [("name", z), ("kind", y)]) → E (.ref CB) (some d) H') : ∀ a : Addr, H a = none → spBc CB [.ref a, y, z] (upd H a (exo a CB none)) (fun u H2 => u = .non ∧ ∃ (d : Addr) (fs : List (Str × V)), H2 a = some (exo a CB (some d)) ∧ H2 d = some (exd d fs) ∧ H d = none ∧ E (.ref CB) (some d) (upd (del H2 a) d (.xd fs))) (fun _ _ _ => False) := by
  intro a na
  refine ⟨a, y, z, rfl, upd_same, fun d H' nd ne h1 h2 h3 => ⟨rfl, d, _, h1, h2, ?_, q _ d ?_ ?_ upd_same⟩⟩
  · rw [upd_ne ne] at nd; exact nd
  · intro b o e
    have bd : b ≠ d := fun z => by rw [z] at e; rw [upd_ne ne, e] at nd; cases nd
    have ba : b ≠ a := fun z => by rw [z, na] at e; cases e
    rw [upd_ne bd, del_ne ba, h3 b ba bd, upd_ne ba]
    exact e
  · rw [upd_ne ne] at nd; exact nd
end
theorem pss_no {X : Cx} {sts : List Stmt} : PSs X sts (fun _ _ _ => False) := ⟨fun pins s σ H D I h => h.elim⟩
end Q8

namespace Q8
open PySem PySem.Spec PyProof.Rows L2 StX TL
/-! ### the law's table and FIELDS -/
/-- a list is held; None may be held -/
def lsty (h : Str) : Bool := match endC h with
  | some c => decide (c ∈ ("*+" : Str).cps.toList)
  | none => false
def qsty (h : Str) : Bool := match endC h with
  | some c => decide (V.str ⟨#[c]⟩ = V.str "?")
  | none => false
/-- no list within -/
def noL : Nat → Str → Bool
  | 0, _ => false
  | n + 1, h => match endC h with
    | none => false
    | some c => if decide (c ∈ ("*+" : Str).cps.toList) then false else if decide (V.str ⟨#[c]⟩ = V.str "?") then noL n (inner h) else true
def markOk (fp : List Str) (r : Str × Str × Str) : Bool := match fp with
  | [nm, wh] => decide (nm = r.1) && (decide (lsty wh = decide (r.2.2 ∈ marks)) && (decide (qsty wh = decide (r.2.2 = "?")) && ((noL 3 wh || (lsty wh && noL 2 (inner wh))) && (decide (wh.length ≤ 100) && (endC wh).isSome))))
  | _ => false
theorem marks_ok : (Fld.all fun p => (List.zipWith markOk (fieldsP p.1) p.2).all id) = true := by decide +kernel
theorem mark_at {k : Str} {rs : List (Str × Str × Str)} (row : Fld.lookup k = some rs) {i : Nat} {fp : List Str} {r : Str × Str × Str} (h1 : (fieldsP k)[i]? = some fp) (h2 : rs[i]? = some r) : markOk fp r = true := by
  have z := List.all_eq_true.mp marks_ok _ (lookMem row)
  have y : (List.zipWith markOk (fieldsP k) rs)[i]? = some (markOk fp r) := by rw [List.getElem?_zipWith, h1, h2]
  exact List.all_eq_true.mp z _ (List.mem_of_getElem? y)
theorem noL_at {n : Nat} {h : Str} {c : Nat} (e : endC h = some c) : noL (n + 1) h = if decide (c ∈ ("*+" : Str).cps.toList) then false else if decide (V.str ⟨#[c]⟩ = V.str "?") then noL n (inner h) else true := by rw [noL, e]
theorem fit_noL : ∀ {n : Nat} {h : Str} {m : MT}, noL n h = true → Fit n h m → (∃ v, m = .at_ v) ∨ isMd m = true
  | 0, h, m, z, _ => by cases z
  | n + 1, h, m, z, f => by
    cases e : endC h with
    | none => rw [noL, e] at z; cases z
    | some c =>
      rw [noL_at e] at z
      rw [fit_at e] at f
      cases c1 : decide (c ∈ ("*+" : Str).cps.toList) with
      | true => rw [c1] at z; cases z
      | false =>
        rw [c1, if_neg (by decide)] at z f
        cases c2 : decide (V.str ⟨#[c]⟩ = V.str "?") with
        | true =>
          rw [c2, if_pos rfl] at z f
          rcases f with f | f
          · exact .inl ⟨_, f⟩
          · exact fit_noL z f
        | false =>
          rw [c2, if_neg (by decide)] at f
          exact f
/-- what a part is, by its word -/
theorem fit_part {wh : Str} {p : MT} (w : (noL 3 wh || (lsty wh && noL 2 (inner wh))) = true) (f : Fit 3 wh p) : (lsty wh = true ∧ ∃ D ms, p = .ls D ms ∧ ∀ x ∈ ms, (∃ v, x = .at_ v) ∨ isMd x = true) ∨ (lsty wh = false ∧ ((∃ v, p = .at_ v) ∨ isMd p = true)) := by
  cases e : endC wh with
  | none =>
    rw [Fit, e] at f
    exact f.elim
  | some c =>
    have el : lsty wh = decide (c ∈ ("*+" : Str).cps.toList) := by unfold lsty; rw [e]
    cases c1 : decide (c ∈ ("*+" : Str).cps.toList) with
    | true =>
      rw [fit_at e, c1, if_pos rfl] at f
      obtain ⟨D, ms, rfl, hf⟩ := f
      rw [noL_at e, c1, if_pos rfl, Bool.false_or] at w
      obtain ⟨w1, w2⟩ := Bool.and_eq_true_iff.mp w
      exact .inl ⟨w1, D, ms, rfl, fun x hx => fit_noL w2 (hf x hx)⟩
    | false =>
      rw [el, c1, Bool.false_and, Bool.or_false] at w
      exact .inr ⟨el.trans c1, fit_noL w f⟩
end Q8

namespace Q8
open PySem PySem.Spec PyProof.Rows L2 StX TL RZ LamX NdefX
/-! ### the first call whose answer can't stand -/
def scan (st wy : Nat) : Nat → List Ctx3 → Option (Ctx3 × Nat)
  | _, [] => none
  | c, x :: r => if (decide (st ≤ c) && badB x.2.2 wy) = true then some (x, c) else scan st wy (c + 1) r
theorem scan_app {st wy : Nat} : ∀ {A B : List Ctx3} {c : Nat}, scan st wy c (A ++ B) = match scan st wy c A with
    | some z => some z
    | none => scan st wy (c + A.length) B
  | [], B, c => by rw [List.nil_append]; rfl
  | x :: r, B, c => by
    rw [List.cons_append, scan, scan]
    by_cases z : (decide (st ≤ c) && badB x.2.2 wy) = true
    · rw [if_pos z, if_pos z]
    · rw [if_neg z, if_neg z, scan_app, List.length_cons, Nat.add_right_comm, Nat.add_assoc]
theorem scan_one {st wy c : Nat} {x : Ctx3} : scan st wy c [x] = if (decide (st ≤ c) && badB x.2.2 wy) = true then some (x, c) else none := by rw [scan, scan]
theorem scan_left {st wy c : Nat} {A B : List Ctx3} {z : Ctx3 × Nat} (h : scan st wy c A = some z) : scan st wy c (A ++ B) = some z := by rw [scan_app, h]
theorem scan_right {st wy c : Nat} {A B : List Ctx3} (h : scan st wy c A = none) : scan st wy c (A ++ B) = scan st wy (c + A.length) B := by rw [scan_app, h]
/-- what stands at a field's word -/
def okF (wh : Str) : RK → Bool
  | .nd => true
  | .nn => lsty wh || qsty wh
  | .gl => lsty wh
  | _ => false
theorem bad_eq {wh : Str} {w : Nat} (hw : w < 19) (he : (endC wh).isSome = true) : badB wh w = !okF wh (rkOf w) := by
  obtain ⟨c, hc⟩ := Option.isSome_iff_exists.mp he
  have ne : wh ≠ "" := fun z => by
    rw [z, show endC "" = none from by decide +kernel] at hc
    cases hc
  have el : lsty wh = decide (c ∈ ("*+" : Str).cps.toList) := by unfold lsty; rw [hc]
  have eq : qsty wh = decide (V.str ⟨#[c]⟩ = V.str "?") := by unfold qsty; rw [hc]
  by_cases lo : w < 14
  · have e1 : badB wh w = true := by
      unfold badB
      rw [if_pos (by rw [decide_eq_true lo]; rfl)]
      exact decide_eq_true (by omega)
    have e2 : okF wh (rkOf w) = false := by
      unfold rkOf
      rw [if_neg (by omega), if_neg (by omega), if_neg (by omega)]
      split <;> rfl
    rw [e1, e2]
    rfl
  · have e1 : badB wh w = if decide (c ∈ ("*+" : Str).cps.toList) then false else (decide (w = 15) || (decide (w = 16) || decide (w = 17))) || (decide (w = 14) && !decide (V.str ⟨#[c]⟩ = V.str "?")) := by
      unfold badB
      rw [if_neg (by rw [decide_eq_false lo, decide_eq_false ne]; decide), hc]
    rw [e1, ← el, ← eq]
    have hw5 : w = 14 ∨ w = 15 ∨ w = 16 ∨ w = 17 ∨ w = 18 := by omega
    rcases hw5 with rfl | rfl | rfl | rfl | rfl
    · show (if lsty wh = true then false else _) = !(lsty wh || qsty wh)
      cases lsty wh <;> cases qsty wh <;> rfl
    · show (if lsty wh = true then false else _) = !(lsty wh)
      cases lsty wh <;> rfl
    · show (if lsty wh = true then false else _) = !(lsty wh)
      cases lsty wh <;> rfl
    · show (if lsty wh = true then false else _) = !(lsty wh)
      cases lsty wh <;> rfl
    · show (if lsty wh = true then false else _) = !true
      cases lsty wh <;> rfl
/-! ### one node's answer -/
/-- the answer of a node of the kind k: where its kind is none of the handler's, the copy -/
def ansR (st wy : Nat) (kd k : Str) (n : Nat) : RK := if k = kd then rkAt st wy (n + 1) else .nd
theorem scan_cl {st wy c : Nat} {kd a n wh k : Str} {d pl sp : Addr} {ps : List MT} (hw : wy < 19) (he : (endC wh).isSome = true) (e : scan st wy c (clF kd k ps (fieldsP k)) = none) :
    scan st wy c ((MT.md d pl sp k ps).cl kd a n wh) = if okF wh (ansR st wy kd k (c + (clF kd k ps (fieldsP k)).length)) = true then none else some ((a, n, wh), c + (clF kd k ps (fieldsP k)).length) := by
  rw [cl_md, scan_right e]
  unfold ansR
  by_cases z : k = kd
  · rw [if_pos z, if_pos z, scan_one, bad_eq hw he]
    unfold rkAt
    by_cases y : st ≤ c + (clF kd k ps (fieldsP k)).length
    · rw [decide_eq_true y, Bool.true_and, if_neg (show ¬ c + (clF kd k ps (fieldsP k)).length + 1 ≤ st by omega)]
      cases okF wh (rkOf wy) <;> rfl
    · rw [decide_eq_false y, Bool.false_and, if_pos (show c + (clF kd k ps (fieldsP k)).length + 1 ≤ st by omega)]
      rfl
  · rw [if_neg z, if_neg z]
    rfl
theorem cl_one {kd a n wh k : Str} {d pl sp : Addr} {ps : List MT} : ((MT.md d pl sp k ps).cl kd a n wh).length = (clF kd k ps (fieldsP k)).length + (if k = kd then 1 else 0) := by
  rw [cl_md, List.length_append]
  split <;> rfl
theorem okF_lst {wh : Str} (h : lsty wh = true) (r : RK) : okF wh r = okL r := by
  cases r <;> simp [okF, okL, h]
/-! ### the handlers, ahead of a call -/
structure Hn where
  hd : Addr
  g : Addr
  F : NF
  mt : Addr
  kd : Str
  wy : Nat
  st : Nat
structure HdAt (h : Hn) (H : Hp) (c : Nat) : Prop where
  dict : H h.hd = some (.dK [(.inr h.kd, .ref h.g)])
  isF : HandF h.F
  lam : LamAt H h.g h.F lmB lmFr [.int (h.wy : Int), .int (h.st : Int), .ref h.mt]
  w19 : h.wy < 19
  met : H h.mt = some (.lst (List.replicate c (.str h.kd)))
/-- the heap without the list of the calls -/
noncomputable def mn (h : Hn) (H : Hp) : Hp := res (fun b => b = h.mt) H
section
variable {h : Hn} {H H' H2 : Hp} {c c' : Nat}
theorem mn_up (k : KpX [h.mt] H H') : Same (mn h H) (mn h H') := res_up fun b o n e => ⟨n, k b o (fun z => n (List.mem_singleton.mp z)) e⟩
theorem HdAt.up (A : HdAt h H c) (k : KpX [h.mt] H H') (m : H' h.mt = some (.lst (List.replicate c' (.str h.kd)))) : HdAt h H' c' := by
  refine ⟨k _ _ (fun z => ?_) A.dict, A.isF, A.lam.up fun b φ e => k _ _ (fun z => ?_) e, A.w19, m⟩
  · have e := A.dict
    rw [List.mem_singleton.mp z, A.met] at e
    cases e
  · rw [List.mem_singleton.mp z, A.met] at e
    cases e
theorem HdAt.same (A : HdAt h H c) (s : Same H H') : HdAt h H' c := A.up (KpX.same s) (s _ _ A.met)
theorem KpX.tr (a : KpX [h.mt] H H') (b : KpX [h.mt] H' H2) : KpX [h.mt] H H2 := fun x o n e => b x o n (a x o n e)
/-- a new thing, and what is written there -/
theorem KpX.new {o : HO} {D : Addr} (a : KpX [h.mt] H H') (n : H D = none) : KpX [h.mt] H (upd H' D o) := fun x u nx e => by
  rw [upd_ne (ne_of_none e n)]
  exact a x u nx e
theorem HdAt.ne {D : Addr} (A : HdAt h H c) (n : H D = none) : h.mt ≠ D := fun z => by
  have e := A.met
  rw [z, n] at e
  cases e
end
/-- raised -/
def Rz (CB : Addr) (h : Hn) (H : Hp) (E : XK) (x : Ctx3) (i : Nat) : Prop := ∀ (H' : Hp) (d : Addr), KpX [h.mt] H H' → H' h.mt = some (.lst (List.replicate (i + 1) (.str h.kd))) → H' d = some (.xd [("name", .str x.2.1), ("kind", .str x.1)]) → E (.ref CB) (some d) H'
/-- a value -/
def Vz (h : Hn) (H : Hp) (Q : VK) (c : Nat) (ok : Hp → V → Prop) : Prop := ∀ H' v, KpX [h.mt] H H' → H' h.mt = some (.lst (List.replicate c (.str h.kd))) → ok H' v → Q v H'
/-- what comes of calls -/
def Cz (CB : Addr) (h : Hn) (H : Hp) (Q : VK) (E : XK) (c : Nat) (B : List Ctx3) (n : Nat) (ok : Hp → V → Prop) : Prop := match scan h.st h.wy c B with
  | some z => Rz CB h H E z.1 z.2
  | none => Vz h H Q (c + n) ok
theorem Cz.raise {CB : Addr} {h : Hn} {H : Hp} {Q : VK} {E : XK} {c n : Nat} {B : List Ctx3} {ok : Hp → V → Prop} {z : Ctx3 × Nat} (q : Cz CB h H Q E c B n ok) (e : scan h.st h.wy c B = some z) : Rz CB h H E z.1 z.2 := by
  unfold Cz at q
  rw [e] at q
  exact q
theorem Cz.value {CB : Addr} {h : Hn} {H : Hp} {Q : VK} {E : XK} {c n : Nat} {B : List Ctx3} {ok : Hp → V → Prop} (q : Cz CB h H Q E c B n ok) (e : scan h.st h.wy c B = none) : Vz h H Q (c + n) ok := by
  unfold Cz at q
  rw [e] at q
  exact q
theorem Cz.of {CB : Addr} {h : Hn} {H : Hp} {Q : VK} {E : XK} {c n : Nat} {B : List Ctx3} {ok : Hp → V → Prop} (r : ∀ z, scan h.st h.wy c B = some z → Rz CB h H E z.1 z.2) (v : scan h.st h.wy c B = none → Vz h H Q (c + n) ok) : Cz CB h H Q E c B n ok := by
  unfold Cz
  cases e : scan h.st h.wy c B with
  | some z => exact r z e
  | none => exact v e
theorem Rz.up {CB : Addr} {h : Hn} {H H1 : Hp} {E : XK} {x : Ctx3} {i : Nat} (r : Rz CB h H E x i) (k : KpX [h.mt] H H1) : Rz CB h H1 E x i := fun H' d k1 m e => r H' d (k.tr k1) m e
/-- _transformed(node, handlers) -/
def spTr (K : PySem.W.Frag) (C CB : Addr) (Cs : Nat → Addr) (n : Nat) : Sp := fun vs H Q E => ∃ (h : Hn) (c : Nat) (nd : Addr → Option Addr) (d pl sp p : Addr) (k : Str) (ps : List MT), vs = [.ref p, .ref h.hd] ∧ HdAt h H c ∧ MAt Cs nd (mn h H) (.md d pl sp k ps) ∧ So C nd (mn h H) (mn h H) (.md d pl sp k ps) (.ref p) ∧ CfM (.md d pl sp k ps) ∧
  (MT.md d pl sp k ps).hgt < n ∧ c + (MT.md d pl sp k ps).mds.length ≤ 1000000 ∧ Cz CB h H Q E c (clF h.kd k ps (fieldsP k)) ((clF h.kd k ps (fieldsP k)).length + (if k = h.kd then 1 else 0)) (fun H' v => ResV K C H' v (ansR h.st h.wy h.kd k (c + (clF h.kd k ps (fieldsP k)).length)))
/-- a field of a node, as the model says -/
def FldAt (C : Addr) (Cs : Nat → Addr) (nd : Addr → Option Addr) (h : Hn) (H : Hp) (p : Addr) (k nm wh mark : Str) (m : MT) (v : V) : Prop := ∃ (dx dn : Addr) (mm fs : List (Key × V)) (ty : Str), H p = some (.ins C dx (nodeFs k mm dn)) ∧ H dn = some (.dK fs) ∧ valV fs (.inr nm) = some v ∧
  MAt Cs nd (mn h H) m ∧ So C nd (mn h H) (mn h H) m v ∧ CfM m ∧ Fit 3 wh m ∧ markOk [nm, wh] (nm, ty, mark) = true
theorem FldAt.up {C : Addr} {Cs : Nat → Addr} {nd : Addr → Option Addr} {h : Hn} {H H' : Hp} {p : Addr} {k nm wh mark : Str} {m : MT} {v : V} {c : Nat} (A : FldAt C Cs nd h H p k nm wh mark m v) (hh : HdAt h H c) (kp : KpX [h.mt] H H') : FldAt C Cs nd h H' p k nm wh mark m v := by
  obtain ⟨dx, dn, mm, fs, ty, h1, h2, h3, h4, h5, h6, h7, h8⟩ := A
  have ne : ∀ b o, H b = some o → (∀ xs, o ≠ .lst xs) → b ∉ [h.mt] := fun b o e n z => by
    rw [List.mem_singleton.mp z, hh.met] at e
    exact n _ (Option.some.inj e).symm
  exact ⟨dx, dn, mm, fs, ty, kp _ _ (ne _ _ h1 fun _ z => by cases z) h1, kp _ _ (ne _ _ h2 fun _ z => by cases z) h2, h3, h4.up (mn_up kp), h5.same h4 (mn_up kp), h6, h7, h8⟩
def spNw (K : PySem.W.Frag) (C CB : Addr) (Cs : Nat → Addr) (n : Nat) : Sp := fun vs H Q E => ∃ (h : Hn) (c : Nat) (nd : Addr → Option Addr) (p : Addr) (k nm wh mark : Str) (D : Addr) (ms : List MT) (v : V), vs = [.ref p, .str nm, .ref h.hd] ∧ HdAt h H c ∧ FldAt C Cs nd h H p k nm wh mark (.ls D ms) v ∧
  hgtL ms < n ∧ c + (mdsL ms).length ≤ 1000000 ∧ Cz CB h H Q E c (clI h.kd ms k nm wh) (clI h.kd ms k nm wh).length (fun _ _ => True)
def spNv (K : PySem.W.Frag) (C CB : Addr) (Cs : Nat → Addr) (n : Nat) : Sp := fun vs H Q E => ∃ (h : Hn) (c : Nat) (nd : Addr → Option Addr) (p : Addr) (k nm wh mark : Str) (m : MT) (v : V), vs = [.ref p, .str nm, .str mark, .ref h.hd] ∧ HdAt h H c ∧ FldAt C Cs nd h H p k nm wh mark m v ∧
  m.hgt < n ∧ c + m.mds.length ≤ 1000000 ∧ Cz CB h H Q E c (m.cl h.kd k nm wh) (m.cl h.kd k nm wh).length (fun _ _ => True)
end Q8

namespace Q8
open PySem PySem.Spec PyProof.Rows L2 StX TL RZ LamX NdefX
/-! ### a list in a field -/
abbrev sNw : Stmt := topS 26
theorem scNw : FnScope ["node", "name", "handlers", "items", "item", "made"] ["node", "name", "handlers"] (defScope sNw) := ⟨rfl, rfl, rfl, by decide +kernel, rfl, by decide +kernel, by decide +kernel⟩
theorem SoL.at_ {C : Addr} {nd : Addr → Option Addr} {S R : Hp} : ∀ {ms : List MT} {vs : List V} {i : Nat} {v : V}, SoL C nd S R ms vs → vs[i]? = some v → ∃ m, ms[i]? = some m ∧ So C nd S R m v
  | _, _, i, v, .nil, h => by simp at h
  | _, _, 0, v, .cons a _, h => by
    cases h
    exact ⟨_, rfl, a⟩
  | _, _, i + 1, v, .cons _ b, h => by
    obtain ⟨m, h1, h2⟩ := b.at_ (i := i) h
    exact ⟨m, h1, h2⟩
/-- the calls of a list, up to an item and with it -/
theorem clI_take {kd a n w : Str} {ms : List MT} {i : Nat} {m : MT} (h : ms[i]? = some m) : clI kd (ms.take (i + 1)) a n w = clI kd (ms.take i) a n w ++ (if isMd m then m.cl kd a n w else []) := by rw [take_snoc h, clI_snoc]
theorem clI_drop {kd a n w : Str} : ∀ {ms : List MT} (i : Nat), ∃ r, clI kd ms a n w = clI kd (ms.take i) a n w ++ r
  | [], i => ⟨[], by rw [List.take_nil, clI_nil]; rfl⟩
  | m :: r, 0 => ⟨_, by rw [List.take_zero, clI_nil]; rfl⟩
  | m :: r, i + 1 => by
    obtain ⟨z, e⟩ := clI_drop (kd := kd) (a := a) (n := n) (w := w) (ms := r) i
    exact ⟨z, by rw [List.take_succ_cons, clI_cons, clI_cons, e, List.append_assoc]⟩
theorem mt_ne {h : Hn} {H : Hp} {c : Nat} (A : HdAt h H c) {b : Addr} {o : HO} (e : H b = some o) (n : ∀ xs, o ≠ .lst xs) : b ∉ [h.mt] := fun z => by
  rw [List.mem_singleton.mp z, A.met] at e
  exact n _ (Option.some.inj e).symm
section
variable {P : Program} {w : World} {K : PySem.W.Frag} {mg : Str → Option Value} {base : Heap} {C CT CB CN fB : Addr} {Cs : Nat → Addr}
theorem no_nw {f : Addr} {fd : FuncData} {k : Nat} {ps : List Str} : FnOk P w K mg base (L2.CX P w) k f fd ps (spNw K C CB Cs 0) := by
  have no : ∀ vs H Q E, ¬ spNw K C CB Cs 0 vs H Q E := fun vs H Q E h => by
    obtain ⟨_, _, _, _, _, _, _, _, _, _, _, _, _, _, h1, _⟩ := h
    omega
  exact ⟨fun vs H Q E h => absurd h (no vs H Q E), fun A outer s H args us vs Q E _ _ _ _ h => absurd h (no vs H Q E)⟩
theorem ok_nw {f fT fL fA fC fG fS : Addr} {fd dT dL dA dC dG dB : FuncData} (F : Fun K "_new_items" "_new_items" sNw f fd) (Z : Blt mg) (W : ValI K C Cs) (Ni : NodeI K C) (Nf : NodeF K C) (Nc : NodeC K C fG fS) (mN : mg "Node" = some (.ref C))
    (GT : FnOk P w K mg base CX0 1 fG dG ["self", "at"] (spGet C)) (bG : Binds K dG ["self", "at"] [])
    (FL : FnOk P w K mg base CX0 1 fL dL ["made"] (spFL K C)) (bL : Binds K dL ["made"] []) (kL : PySem.W.keepIn K (.ref fL) = true) (mL : mg "_fits_list" = some (.ref fL))
    (AI : FnOk P w K mg base CX0 1 fA dA ["made"] (spAI K C)) (bA : Binds K dA ["made"] []) (kA : PySem.W.keepIn K (.ref fA) = true) (mA : mg "_as_items" = some (.ref fA))
    (CO : FnOk P w K mg base CX0 1 fC dC ["value"] (spCo K C)) (bC : Binds K dC ["value"] []) (kC : PySem.W.keepIn K (.ref fC) = true) (mC : mg "copied" = some (.ref fC))
    (B : BadC K mg CT CB CN fB) (BC : FnOk P w K mg base CX0 1 fB dB ["self", "kind", "name"] (spBc CB)) (bB : Binds K dB ["self", "kind", "name"] [])
    {n k : Nat} (hk : 2 ≤ k) (TR : FnOk P w K mg base (L2.CX P w) k fT dT ["node", "handlers"] (spTr K C CB Cs n)) (bT : Binds K dT ["node", "handlers"] []) (kT : PySem.W.keepIn K (.ref fT) = true) (mT : mg "_transformed" = some (.ref fT)) :
    FnOk P w K mg base (L2.CX P w) (k + 1) f fd ["node", "name", "handlers"] (spNw K C CB Cs n) := by
  refine F.okX scNw (fun vs H Q E h => ?_) (fun cdv A outer s H vs Q E hr h => ?_)
  · obtain ⟨_, _, _, _, _, _, _, _, _, _, _, rfl, _⟩ := h
    rfl
  obtain ⟨h, c, nd, p, kk, nm, wh, mark, D, ms, v, rfl, hh, fa, hgt, hlen, q⟩ := h
  have hr2 := hr.mono hk
  have hr1 := hr.mono (show 1 ≤ k by omega)
  refine ⟨_, (pss_cons (ps_set (i := 3) scNw.nd rfl (.inl rfl) (pe_lst pa_nil))
    (pss_cons (ps_for (passes_of rfl) rfl (pi_list (pe_callTy call_list_of (by rfl) Z.ls (by decide +kernel) (pa_cons (pe_ixN Nc GT bG hr2 (pv 0) (pv 1)) pa_nil))) (pg_name (i := 4) scNw.nd rfl (.inl rfl))
      (pss_one (ps_if (pt_val (pe_callB call_isi (by rfl) Z.isI (by decide +kernel) (pa_cons (pv 4) (pa_cons (pe_glob (v := .ref C) rfl mN rfl) pa_nil))))
        (pss_cons (ps_set (i := 5) scNw.nd rfl (.inl rfl) (pe_callS TR hr rfl mT kT bT (fun σ => passAt (takes_of rfl rfl rfl rfl) σ) (pa_cons (pv 4) (pa_cons (pv 2) pa_nil))))
        (C8.pss_cut (ps_if (pt_not (pt_val (pe_call FL hr1 rfl mL kL bL .nil pass0 (pa_cons (pv 5) pa_nil)))) (pss_one (ps_raise rfl (takes_of rfl rfl rfl rfl) (pmk_oex B.oex B.ini B.tyI BC hr2 bB .nil pass0 rfl B.g (pa_cons (pe_fld (pv 0) rfl) (pa_cons (pv 1) pa_nil))))) pss_nil)
        (pss_one (ps_aug (i := 3) scNw.nd rfl (.inl rfl) (pe_call AI hr1 rfl mA kA bA .nil pass0 (pa_cons (pv 5) pa_nil)) iop_ext))))
        (pss_one (ps_expr (pe_bm PySem.F.plainAttrs_list PySem.F.slot_list_append PySem.F.type_list_append mt_append (pv 3) (pa_cons (pe_call CO hr1 rfl mC kC bC .nil pass0 (pa_cons (pv 4) pa_nil)) pa_nil)))))))
    (pss_one (ps_ret (pv 3))))), ?_⟩
  have fa0 := fa
  obtain ⟨dx, dn, mm, fs, ty, hp, hdn, hv, hm, hso, hcf, hfit, hmk⟩ := fa
  obtain ⟨D', xs, rfl, hD', hsl⟩ : ∃ D' xs, v = .ref D' ∧ mn h H D' = some (.lst xs) ∧ SoL C nd (mn h H) (mn h H) ms xs := by
    cases hso with
    | ls a b => exact ⟨_, _, rfl, a, b⟩
  have hD := res_out _ _ hD'
  obtain ⟨hm100, hms⟩ : ms.length ≤ 100 ∧ MAtL Cs nd (mn h H) ms := by
    cases hm with
    | ls _ b c => exact ⟨b, c⟩
  have lx := hsl.len
  have hcf' : ∀ m ∈ ms, CfM m := by
    cases hcf with
    | ls a => exact a
  obtain ⟨hw1, hw2⟩ : lsty wh = true ∧ ((endC wh).isSome = true ∧ ∀ x ∈ ms, (∃ u, x = .at_ u) ∨ isMd x = true) := by
    unfold markOk at hmk
    obtain ⟨_, hmk⟩ := Bool.and_eq_true_iff.mp hmk
    obtain ⟨_, hmk⟩ := Bool.and_eq_true_iff.mp hmk
    obtain ⟨_, hmk⟩ := Bool.and_eq_true_iff.mp hmk
    obtain ⟨e1, hmk⟩ := Bool.and_eq_true_iff.mp hmk
    obtain ⟨_, e2⟩ := Bool.and_eq_true_iff.mp hmk
    rcases fit_part e1 hfit with ⟨a, _, _, b, c⟩ | ⟨_, ⟨u, b⟩ | b⟩
    · cases b
      exact ⟨a, e2, c⟩
    · cases b
    · cases b
  have zS : (10000 : Nat) ≤ sizeLine := by decide
  refine ⟨by show 0 ≤ sizeLine; exact Nat.zero_le _, fun L nL => ?_⟩
  have s1 := same_new (o := .lst []) nL
  have hL1 : (upd H L (.lst [])) L = some (.lst []) := upd_same
  generalize upd H L (.lst []) = H1 at s1 hL1 ⊢
  have f1 := fa0.up hh (KpX.same s1)
  obtain ⟨dx1, dn1, mm1, fs1, ty1, hp1, hdn1, hv1, _⟩ := f1
  refine ⟨_, rfl, _, rfl, p, dx1, dn1, nm, _, fs1, _, rfl, rfl, hp1, rfl, hdn1, hv1, D', xs, rfl, .inl (SqL.of (s1 _ _ hD)), fun l nl => ?_⟩
  have s2 := same_new (o := .lst xs) nl
  have hl2 : (upd H1 l (.lst xs)) l = some (.lst xs) := upd_same
  have Ll : L ≠ l := ne_of_none hL1 nl
  have hL2 := s2 _ _ hL1
  generalize upd H1 l (.lst xs) = H2 at s2 hl2 hL2 ⊢
  have s12 := s1.trans s2
  have nlH : H l = none := s1.free nl
  have hh2 := hh.same s12
  refine ⟨l, rfl, ⟨_, SqL.of hl2⟩, ?_⟩
  refine for_list (K := K) (a := l) (xs := xs) (fun i σ H' => ∃ (x4 x5 : Option V) (acc : List V) (c' : Nat), σ = [some (.ref p), some (.str nm), some (.ref h.hd), some (.ref L), x4, x5] ∧ KpX [h.mt] H H' ∧ H' h.mt = some (.lst (List.replicate c' (.str h.kd))) ∧ scan h.st h.wy c (clI h.kd (ms.take i) kk nm wh) = none ∧ c' = c + (clI h.kd (ms.take i) kk nm wh).length ∧ H' L = some (.lst acc) ∧ acc.length ≤ 10 * i ∧ H' l = some (.lst xs))
    ⟨none, none, [], c, rfl, KpX.same s12, hh2.met, by rw [List.take_zero, clI_nil, scan], by rw [List.take_zero, clI_nil]; rfl, hL2, Nat.zero_le _, hl2⟩ (fun i σ H' _ ⟨_, _, _, _, _, _, _, _, _, _, _, z⟩ => SqL.of z) ?_ ?_
  · rintro i x σ H3 hx ⟨x4, x5, acc, c', rfl, k3, m3, sc3, ec, hL3, la, hl3⟩
    have hh3 : HdAt h H3 c' := hh.up k3 m3
    have i100 : i < 100 := by
      have := (List.getElem?_eq_some_iff.mp hx).1
      omega
    obtain ⟨m, hmi, so⟩ := hsl.at_ hx
    have mm := List.mem_of_getElem? hmi
    have mA := (hms.mem m mm).up (mn_up k3)
    have so3 := so.same (hms.mem m mm) (mn_up k3)
    have mtL : h.mt ≠ L := hh.ne nL
    have mtl : h.mt ≠ l := hh.ne nlH
    obtain ⟨rest, erest⟩ := clI_drop (kd := h.kd) (a := kk) (n := nm) (w := wh) (ms := ms) (i + 1)
    have etake := clI_take (kd := h.kd) (a := kk) (n := nm) (w := wh) hmi
    rcases hw2.2 m mm with ⟨u, rfl⟩ | hmd
    · -- no node: its copy
      cases so3
      cases mA with
      | at_ cst =>
        obtain ⟨t, t1, t2, t3⟩ := cst.ty W
        have t1 := tyX_up t1 (res_out (B := fun b => b = h.mt) (H := H3))
        refine ⟨_, rfl, x, .ref C, _, _, _, rfl, .own _, t1, t2, _, rfl, iteF ?_⟩
        refine ⟨_, rfl, .inl ⟨rfl, _, SqL.of hL3⟩, _, rfl, x, t, rfl, t1, t2, t3 _ (by simp [seqTs]), L, _, _, rfl, rfl, hL3, by omega, ?_⟩
        refine ⟨_, x5, acc ++ [x], c', rfl, KpX.new k3 nL, by rw [upd_ne mtL]; exact m3, ?_, ?_, upd_same, by rw [List.length_append, List.length_singleton]; omega, by rw [upd_ne Ll.symm]; exact hl3⟩
        · rw [etake]
          show scan _ _ _ (_ ++ []) = none
          rw [List.append_nil]
          exact sc3
        · rw [etake]
          show c' = c + (_ ++ []).length
          rw [List.append_nil]
          exact ec
    · cases m with
      | at_ _ => cases hmd
      | ls _ _ => cases hmd
      | tu _ _ => cases hmd
      | md d pl sp k' ps =>
      rw [show (if isMd (.md d pl sp k' ps) then (MT.md d pl sp k' ps).cl h.kd kk nm wh else []) = (MT.md d pl sp k' ps).cl h.kd kk nm wh from rfl] at etake
      have whole : ∀ z, scan h.st h.wy c' ((MT.md d pl sp k' ps).cl h.kd kk nm wh) = some z → scan h.st h.wy c (clI h.kd ms kk nm wh) = some z := fun z e => by
        rw [erest, etake, List.append_assoc, scan_right sc3, ← ec]
        exact scan_left e
      have so3' := so3
      obtain ⟨p', dx', fs', rfl, hp3⟩ : ∃ p' dx' fs', x = .ref p' ∧ mn h H3 p' = some (.ins C dx' fs') := by
        cases so3 with
        | md _ a _ _ _ _ _ => exact ⟨_, _, _, rfl, a⟩
      have hp3 := res_out _ _ hp3
      refine ⟨_, rfl, .ref p', .ref C, _, _, _, rfl, .own _, .base (.ins hp3 Ni.cl Ni.ha Ni.hn Ni.ht Ni.hm), Ni.sf, _, rfl, iteT ?_⟩
      have hg := hgtL_at hmi
      have hml := mds_le mm
      have lcl : (clI h.kd (ms.take i) kk nm wh).length + (MT.md d pl sp k' ps).mds.length ≤ (mdsL ms).length := by
        have z1 := ((cl_len h.kd (hgtL (ms.take i) + 1)).2 (ms.take i) (Nat.lt_succ_self _)).1 kk nm wh
        have z2 := (mdsL_take (ms := ms) (i + 1)).length_le
        rw [take_snoc hmi, mdsL_app, mdsL_cons, mdsL_nil, List.append_nil, List.length_append] at z2
        omega
      refine ⟨_, rfl, _, rfl, h, c', nd, d, pl, sp, p', k', ps, rfl, hh3, mA, so3', hcf' _ mm, by omega, by omega, Cz.of (fun z e => ?_) (fun e => ?_)⟩
      · exact (q.raise (whole z (by rw [cl_md]; exact scan_left e))).up k3
      intro H4 v4 k4 m4 rv
      have scl := scan_cl (a := kk) (n := nm) (d := d) (pl := pl) (sp := sp) hh.w19 hw2.1 e
      rw [okF_lst hw1] at scl
      have hh4 : HdAt h H4 _ := hh3.up k4 m4
      refine ⟨fun σ H' => σ = [some (.ref p), some (.str nm), some (.ref h.hd), some (.ref L), some (.ref p'), some v4] ∧ Same H4 H' ∧ okL (ansR h.st h.wy h.kd k' (c' + (clF h.kd k' ps (fieldsP k')).length)) = true, ?_, ?_⟩
      · refine ⟨_, rfl, v4, _, rfl, rv, fun H5 s5 => ?_⟩
        cases ok : okL (ansR h.st h.wy h.kd k' (c' + (clF h.kd k' ps (fieldsP k')).length)) with
        | true => exact ⟨_, rfl, iteF ⟨rfl, s5, rfl⟩⟩
        | false =>
          refine ⟨_, rfl, iteT ?_⟩
          have kd' : k' = h.kd := by
            rcases Decidable.em (k' = h.kd) with z | z
            · exact z
            · unfold ansR at ok
              rw [if_neg z] at ok
              cases ok
          rw [ok, if_neg (by decide)] at scl
          have rz := q.raise (whole _ scl)
          have k5 : KpX [h.mt] H H5 := (k3.tr k4).tr (KpX.same s5)
          obtain ⟨dx5, dn5, mm5, fs5, ty5, hp5, _⟩ := fa0.up hh k5
          refine ⟨_, rfl, p, C, dx5, _, .str kk, rfl, hp5, Nf.cl, Nf.n1, rfl, _, rfl, by show 2 ≤ 1000; decide, bad_fin fun H6 d6 s6 _ e6 => rz H6 d6 (k5.tr (KpX.same s6)) ?_ e6⟩
          have z := s6 _ _ (s5 _ _ m4)
          rw [if_pos kd'] at z
          exact z
      rintro σ H5 ⟨rfl, s5, ok⟩
      rw [ok, if_pos rfl] at scl
      refine ⟨_, rfl, _, rfl, v4, _, rfl, ?_, ok, fun H6 R ys s6 hR ly => ?_⟩
      · cases hr' : ansR h.st h.wy h.kd k' (c' + (clF h.kd k' ps (fieldsP k')).length) with
        | bd => rw [hr'] at ok; cases ok
        | bl => rw [hr'] at ok; cases ok
        | nn => rw [hr'] at rv; exact rv
        | gl =>
          rw [hr'] at rv
          obtain ⟨l', xs', e1, e2, e3, e4⟩ := rv
          exact ⟨l', xs', e1, s5 _ _ e2, fun x hx => (e3 x hx).up s5, e4⟩
        | nd => rw [hr'] at rv; exact NodeV.up rv s5
      have k6 : KpX [h.mt] H H6 := (k3.tr k4).tr (KpX.same (s5.trans s6))
      have k36 : KpX [h.mt] H3 H6 := k4.tr (KpX.same (s5.trans s6))
      have hL6 := k36 _ _ (fun z => mtL (List.mem_singleton.mp z).symm) hL3
      have hl6 := k36 _ _ (fun z => mtl (List.mem_singleton.mp z).symm) hl3
      refine ⟨L, R, acc, ys, rfl, rfl, hL6, hR, by omega, ?_⟩
      refine ⟨_, _, acc ++ ys, c' + ((clF h.kd k' ps (fieldsP k')).length + (if k' = h.kd then 1 else 0)), rfl, KpX.new k6 nL, by rw [upd_ne mtL]; exact s6 _ _ (s5 _ _ m4), ?_, ?_, upd_same, by rw [List.length_append]; omega, by rw [upd_ne Ll.symm]; exact hl6⟩
      · rw [etake, scan_right sc3, ← ec]
        exact scl
      · rw [etake, List.length_append, cl_one]
        omega
  · rintro σ H3 ⟨x4, x5, acc, c', rfl, k3, m3, sc3, ec, hL3, la, hl3⟩
    rw [lx, List.take_length] at sc3 ec
    refine ⟨_, rfl, q.value sc3 H3 (.ref L) k3 ?_ trivial⟩
    rw [← ec]
    exact m3
end
end Q8

namespace Q8
open PySem PySem.Spec PyProof.Rows L2 StX TL RZ LamX NdefX
/-! ### a field's value -/
abbrev sNv : Stmt := topS 25
theorem scNv : FnScope ["node", "name", "mark", "handlers", "value", "made"] ["node", "name", "mark", "handlers"] (defScope sNv) := ⟨rfl, rfl, rfl, by decide +kernel, rfl, by decide +kernel, by decide +kernel⟩
theorem none_ls {K : PySem.W.Frag} : PySem.W.kitOne K (.type "NoneType") (.type "list") = some false := kit_ty (by decide +kernel)
section
variable {P : Program} {w : World} {K : PySem.W.Frag} {mg : Str → Option Value} {base : Heap} {C CT CB CN fB : Addr} {Cs : Nat → Addr}
/-- whether an answer is a node -/
theorem res_ty {H : Hp} {v : V} {r : RK} (W : ValI K C Cs) (Ni : NodeI K C) (h : ResV K C H v r) : ∃ t, TyX K H v t ∧ PySem.W.kitOne K t (.ref C) = some (decide (r = .nd)) ∧ (v = .non ↔ r = .nn) := by
  cases r with
  | bd =>
    obtain ⟨t, t1, t2, t3, t4⟩ := h
    exact ⟨t, t1, t2, ⟨fun z => absurd z t4, fun z => by cases z⟩⟩
  | bl =>
    obtain ⟨l, xs, bs, rfl, hl, _⟩ := h
    exact ⟨_, .base (.lst hl), W.nt _ (by simp), ⟨fun z => by (cases z), fun z => by (cases z)⟩⟩
  | nn =>
    have h : v = .non := h
    subst h
    exact ⟨_, .base .non, W.nt _ (by simp), ⟨fun _ => rfl, fun _ => rfl⟩⟩
  | gl =>
    obtain ⟨l, xs, rfl, hl, _⟩ := h
    exact ⟨_, .base (.lst hl), W.nt _ (by simp), ⟨fun z => by (cases z), fun z => by (cases z)⟩⟩
  | nd =>
    have h : NodeV C H v := h
    refine ⟨_, h.ty Ni, Ni.sf, ?_⟩
    obtain ⟨q, _, _, rfl, _⟩ := h
    exact ⟨fun z => by (cases z), fun z => by (cases z)⟩
theorem ok_nv {f fT fW fG fS : Addr} {fd dT dW dG dB : FuncData} (F : Fun K "_new_value" "_new_value" sNv f fd) (Z : Blt mg) (W : ValI K C Cs) (Ni : NodeI K C) (Nf : NodeF K C) (Nc : NodeC K C fG fS) (mN : mg "Node" = some (.ref C))
    (GT : FnOk P w K mg base CX0 1 fG dG ["self", "at"] (spGet C)) (bG : Binds K dG ["self", "at"] [])
    (B : BadC K mg CT CB CN fB) (BC : FnOk P w K mg base CX0 1 fB dB ["self", "kind", "name"] (spBc CB)) (bB : Binds K dB ["self", "kind", "name"] [])
    {n k : Nat} (hk : 2 ≤ k) (TR : FnOk P w K mg base (L2.CX P w) k fT dT ["node", "handlers"] (spTr K C CB Cs n)) (bT : Binds K dT ["node", "handlers"] []) (kT : PySem.W.keepIn K (.ref fT) = true) (mT : mg "_transformed" = some (.ref fT))
    (NW : FnOk P w K mg base (L2.CX P w) k fW dW ["node", "name", "handlers"] (spNw K C CB Cs n)) (bW : Binds K dW ["node", "name", "handlers"] []) (kW : PySem.W.keepIn K (.ref fW) = true) (mW : mg "_new_items" = some (.ref fW)) :
    FnOk P w K mg base (L2.CX P w) (k + 1) f fd ["node", "name", "mark", "handlers"] (spNv K C CB Cs n) := by
  refine F.okX scNv (fun vs H Q E h => ?_) (fun cdv A outer s H vs Q E hr h => ?_)
  · obtain ⟨_, _, _, _, _, _, _, _, _, _, rfl, _⟩ := h
    rfl
  obtain ⟨h, c, nd, p, kk, nm, wh, mark, m, v, rfl, hh, fa, hgt, hlen, q⟩ := h
  have hr2 := hr.mono hk
  have hr1 := hr.mono (show 1 ≤ k by omega)
  refine ⟨_, (pss_cons (ps_set (i := 4) scNv.nd rfl (.inl rfl) (pe_ixN Nc GT bG hr2 (pv 0) (pv 1)))
    (C8.pss_cut (ps_if (pt_val (pe_callB call_isi (by rfl) Z.isI (by decide +kernel) (pa_cons (pv 4) (pa_cons (pe_bltn (v := .ty "list") (by rfl) Z.ls (by decide +kernel) rfl) pa_nil)))) (pss_one (ps_ret (pe_callS NW hr rfl mW kW bW (fun σ => passAt (takes_of rfl rfl rfl rfl) σ) (pa_cons (pv 0) (pa_cons (pv 1) (pa_cons (pv 3) pa_nil)))))) pss_nil)
    (C8.pss_cut (ps_if (pt_not (pt_val (pe_callB call_isi (by rfl) Z.isI (by decide +kernel) (pa_cons (pv 4) (pa_cons (pe_glob (v := .ref C) rfl mN rfl) pa_nil))))) (pss_one (ps_ret (pv 4))) pss_nil)
    (pss_cons (ps_set (i := 5) scNv.nd rfl (.inl rfl) (pe_callS TR hr rfl mT kT bT (fun σ => passAt (takes_of rfl rfl rfl rfl) σ) (pa_cons (pv 4) (pa_cons (pv 3) pa_nil))))
    (C8.pss_cut (ps_if (PW.pt (pw_or (pt_val (pe_callB call_isi (by rfl) Z.isI (by decide +kernel) (pa_cons (pv 5) (pa_cons (pe_glob (v := .ref C) rfl mN rfl) pa_nil)))) (pw_or1 (PW.pt (pw_and (pt_cmpR op_isN (pv 5) pe_non (nomark _)) (pw_and1 (pt_cmpR op_eq (pv 2) pe_str (nomark _)))))))) (pss_one (ps_ret (pv 5))) pss_nil)
    (pss_one (ps_raise rfl (takes_of rfl rfl rfl rfl) (pmk_oex B.oex B.ini B.tyI BC hr2 bB .nil pass0 rfl B.g (pa_cons (pe_fld (pv 0) rfl) (pa_cons (pv 1) pa_nil)))))))))), ?_⟩
  have fa0 := fa
  obtain ⟨dx, dn, mm, fs, ty, hp, hdn, hv, hm, hso, hcf, hfit, hmk⟩ := fa
  obtain ⟨e1, e2, eq⟩ : (noL 3 wh || (lsty wh && noL 2 (inner wh))) = true ∧ (endC wh).isSome = true ∧ qsty wh = decide (mark = "?") := by
    unfold markOk at hmk
    obtain ⟨_, hmk⟩ := Bool.and_eq_true_iff.mp hmk
    obtain ⟨_, hmk⟩ := Bool.and_eq_true_iff.mp hmk
    obtain ⟨e3, hmk⟩ := Bool.and_eq_true_iff.mp hmk
    obtain ⟨e1, hmk⟩ := Bool.and_eq_true_iff.mp hmk
    obtain ⟨_, e2⟩ := Bool.and_eq_true_iff.mp hmk
    exact ⟨e1, e2, of_decide_eq_true e3⟩
  refine ⟨_, rfl, _, rfl, p, dx, dn, nm, _, fs, v, rfl, rfl, hp, rfl, hdn, hv, ?_⟩
  have mnH : Same (mn h H) H := res_out
  refine ⟨fun σ H' => σ = [some (.ref p), some (.str nm), some (.str mark), some (.ref h.hd), some v, none] ∧ H = H' ∧ isLs m = false, ?_, ?_⟩
  · cases m with
    | at_ u =>
      cases hso
      cases hm with
      | at_ cst =>
        obtain ⟨t, t1, t2, t3⟩ := cst.ty W
        exact ⟨_, rfl, v, .ty "list", _, _, _, rfl, .ty _, tyX_up t1 mnH, t3 _ (by simp [seqTs]), _, rfl, iteF ⟨rfl, rfl, rfl⟩⟩
    | md d pl sp k' ps =>
      cases hso with
      | md _ a _ _ _ _ _ => exact ⟨_, rfl, _, .ty "list", _, _, _, rfl, .ty _, .base (.ins (mnH _ _ a) Ni.cl Ni.ha Ni.hn Ni.ht Ni.hm), Ni.nl, _, rfl, iteF ⟨rfl, rfl, rfl⟩⟩
    | tu a ms =>
      rcases fit_part e1 hfit with ⟨_, _, _, b, _⟩ | ⟨_, ⟨u, b⟩ | b⟩
      · cases b
      · cases b
      · cases b
    | ls a ms =>
      rw [hgt_ls] at hgt
      rw [mds_ls] at hlen
      rw [cl_ls] at q
      have tv : ∃ D' xs, v = .ref D' ∧ H D' = some (.lst xs) := by
        cases hso with
        | ls a _ => exact ⟨_, _, rfl, mnH _ _ a⟩
      obtain ⟨D', xs, rfl, hD⟩ := tv
      refine ⟨_, rfl, .ref D', .ty "list", _, _, _, rfl, .ty _, .base (.lst hD), lst_in, _, rfl, iteT ?_⟩
      exact ⟨_, rfl, _, rfl, _, rfl, h, c, nd, p, kk, nm, wh, mark, a, ms, .ref D', rfl, hh, fa0, by omega, hlen, q⟩
  rintro σ H' ⟨rfl, rfl, nls⟩
  refine ⟨fun σ H' => σ = [some (.ref p), some (.str nm), some (.str mark), some (.ref h.hd), some v, none] ∧ H = H' ∧ isMd m = true, ?_, ?_⟩
  · cases m with
    | at_ u =>
      cases hso
      cases hm with
      | at_ cst =>
        obtain ⟨t, t1, t2, t3⟩ := cst.ty W
        refine ⟨_, rfl, v, .ref C, _, _, _, rfl, .own _, tyX_up t1 mnH, t2, _, rfl, iteT ⟨_, rfl, ?_⟩⟩
        rw [cl_at] at q
        exact q.value (by rw [scan]) H v (KpX.same (Same.refl H)) hh.met trivial
    | md d pl sp k' ps =>
      cases hso with
      | md _ a _ _ _ _ _ => exact ⟨_, rfl, _, .ref C, _, _, _, rfl, .own _, .base (.ins (mnH _ _ a) Ni.cl Ni.ha Ni.hn Ni.ht Ni.hm), Ni.sf, _, rfl, iteF ⟨rfl, rfl, rfl⟩⟩
    | tu a ms =>
      rcases fit_part e1 hfit with ⟨_, _, _, b, _⟩ | ⟨_, ⟨u, b⟩ | b⟩
      · cases b
      · cases b
      · cases b
    | ls a ms => cases nls
  rintro σ H' ⟨rfl, rfl, hmd⟩
  cases m with
  | at_ _ => cases hmd
  | ls _ _ => cases hmd
  | tu _ _ => cases hmd
  | md d pl sp k' ps =>
  have nl : lsty wh = false := by
    rcases fit_part e1 hfit with ⟨_, _, _, b, _⟩ | ⟨z, _⟩
    · cases b
    · exact z
  have hso' := hso
  obtain ⟨p', rfl⟩ : ∃ p', v = .ref p' := by
    cases hso with
    | md _ _ _ _ _ _ _ => exact ⟨_, rfl⟩
  refine ⟨_, rfl, _, rfl, h, c, nd, d, pl, sp, p', k', ps, rfl, hh, hm, hso', hcf, by omega, hlen, Cz.of (fun z e => ?_) (fun e => ?_)⟩
  · exact q.raise (by rw [cl_md]; exact scan_left e)
  intro H4 v4 k4 m4 rv
  have scl := scan_cl (a := kk) (n := nm) (d := d) (pl := pl) (sp := sp) hh.w19 e2 e
  have kd' : okF wh (ansR h.st h.wy h.kd k' (c + (clF h.kd k' ps (fieldsP k')).length)) = false → k' = h.kd := fun z => by
    rcases Decidable.em (k' = h.kd) with y | y
    · exact y
    · unfold ansR at z
      rw [if_neg y] at z
      cases z
  generalize ansR h.st h.wy h.kd k' (c + (clF h.kd k' ps (fieldsP k')).length) = r at rv scl kd' ⊢
  obtain ⟨t, t1, t2, t3⟩ := res_ty W Ni rv
  have fin : okF wh r = true → Q v4 H4 := fun z => by
    rw [z, if_pos rfl] at scl
    refine q.value scl H4 v4 k4 ?_ trivial
    rw [cl_one]
    exact m4
  refine ⟨fun σ H' => σ = [some (.ref p), some (.str nm), some (.str mark), some (.ref h.hd), some (.ref p'), some v4] ∧ H4 = H' ∧ okF wh r = false, ?_, ?_⟩
  · refine ⟨_, rfl, v4, .ref C, _, _, _, rfl, .own _, t1, t2, _, rfl, ?_⟩
    cases hn : decide (r = .nd) with
    | true =>
      have e : r = .nd := of_decide_eq_true hn
      exact iteT (iteT ⟨_, rfl, fin (by rw [e]; rfl)⟩)
    | false =>
      have n1 : r ≠ .nd := of_decide_eq_false hn
      refine iteF ?_
      refine ⟨_, rfl, rfl, _, rfl, ?_⟩
      by_cases e : v4 = .non
      · have er := t3.mp e
        rw [decide_eq_true e]
        refine iteT ?_
        refine ⟨_, rfl, rfl, _, rfl, ?_⟩
        rw [show decide (V.str mark = V.str "?") = decide (mark = "?") from by rw [Bool.eq_iff_iff]; simp, ← eq]
        cases hq : qsty wh with
        | true => exact iteT ⟨_, rfl, fin (by rw [er]; show (lsty wh || qsty wh) = true; rw [hq, Bool.or_true])⟩
        | false => exact iteF ⟨rfl, rfl, by rw [er]; show (lsty wh || qsty wh) = false; rw [hq, nl]; rfl⟩
      · have nr : r ≠ .nn := fun z => e (t3.mpr z)
        rw [decide_eq_false e]
        refine iteF ?_
        refine iteF ⟨rfl, rfl, ?_⟩
        cases r with
        | bd => rfl
        | bl => rfl
        | nn => exact absurd rfl nr
        | gl => exact nl
        | nd => exact absurd rfl n1
  rintro σ H' ⟨rfl, rfl, bad⟩
  rw [bad, if_neg (by decide)] at scl
  have rz := q.raise scl
  obtain ⟨dx5, dn5, mm5, fs5, ty5, hp5, _⟩ := fa0.up hh k4
  refine ⟨_, rfl, p, C, dx5, _, .str kk, rfl, hp5, Nf.cl, Nf.n1, rfl, _, rfl, by show 2 ≤ 1000; decide, bad_fin fun H6 d6 s6 _ e6 => rz H6 d6 (k4.tr (KpX.same s6)) ?_ e6⟩
  have z := s6 _ _ m4
  rw [if_pos (kd' bad)] at z
  exact z
end
end Q8

/-! A list comprehension whose element's call may raise what the def lets out. -/
namespace LcX
open PySem PySem.Spec PyProof.Rows L2
/-- a frame is noted by its number alone -/
theorem note_eq {x : Value} {a b : Env} (h : a.frame = b.frame) : noteFrame x a = noteFrame x b := by
  unfold noteFrame PySem.frameOf
  rw [h]
/-- what is wanted behind the block; its error's way out knows the frame -/
def Out (M : Model) (A : Around) (E : Value → Shared → Prop) (use : Option (Value → Sem Unit)) (Q : Value → Shared → Prop) (acc : Value) (C : Addr) (fr : Option Addr) (r : Result) (z : Shared) : Prop := match r with
  | .ok y => compPost M A E use Q acc C (.ok y) z
  | .error x => ∃ m, z.heap.Ns C m ∧ ∀ g, Heap.SameBut C z.heap g → ∀ ev : Env, ev.locals = C → ev.frame = fr → wpAny M A (passOn "comprehension.variables-let-go" x ev : Sem Value) (fun _ _ => False) E { z with heap := g }
section
variable {M : Model} {A : Around} {E : Value → Shared → Prop} {s : Shared} {env : Env}
theorem comp_out {e : Expr} {scope : Scope} {pos : Pos} {mk fi : Sem Value} {c : Comprehension} {cs : List Comprehension} {cl : List (Str × Addr)} {use : Option (Value → Sem Unit)} {Q : Value → Shared → Prop}
    (hc : clausesOf e = c :: cs) (hs : ∀ x, foldedSetIterable c.iter env x = pure x) (ho : closureFor scope env = pure cl) (hk : scope.kind = .function) (hn : ∀ x ∈ scope.names, x.2 = .local → scope.names.lookup x.1 = some .local)
    (h : wpAny M A fi (fun x s1 => wpAny M A (pyIter x) (fun it s2 => wpAny M A mk (fun acc s3 => wpAny M A (newFunctionEnv scope env.globals cl [] env.qual none .none (some env)) (fun ce s4 =>
      codeAny M A (.compStart e 0 it acc { ce with scope := relabel scope env }) (Out M A E use Q acc ce.locals ce.frame) s4) E s3) E s2) E s1) E s) : wpAny M A (comprehension e scope env pos mk false fi use) Q E s := by
  unfold comprehension
  rw [ho, hc]
  refine wpAny_bind (wpAny_mono h (fun x s1 q1 => wpAny_bind (wpAny_standAt (wpAny_bind (wpAny_of_eq (hs x) (wpAny_bind (wpAny_holding (wpAny_mono q1 (fun it s2 q2 => wpAny_standIf (wpAny_bind (wpAny_mono q2 (fun acc s3 q3 => wpAny_bind (wpAny_pure (wpAny_bind (wpAny_mono q3 (fun ce s4 q4 => ?_) fun _ _ z => z)))) fun _ _ z => z))) fun _ _ z => z))))))) fun _ _ z => z)
  dsimp only
  have loc : ∀ x ∈ (scope.names.filter fun x => (x.2 == .local || x.2 == .cell) && x.1 != (".0" : Str)).reverse, x.2 = .local → Env.kindOf { ce with scope := relabel scope env } x.1 = some .local := fun x hx hl => lookup_relabel_local (hn x (List.mem_filter.mp (List.mem_reverse.mp hx)).1 hl)
  refine wpAny_holding (wpAny_bind (wpAny_attempt (wpAny_holding (wpAny_run (codeAny_mono q4 fun r z hr => ?_)))))
  cases r with
  | ok y =>
    have hr : compPost M A E use Q acc ce.locals (.ok y) z := hr
    cases use with
    | none =>
      obtain ⟨m, hm, hr⟩ := hr
      exact wpAny_bind (wpAny_holding (wpAny_comp_letGo (cenv := { ce with scope := relabel scope env }) hk _ z m loc hm fun g m' _ sb => wpAny_pure (hr g sb)))
    | some u =>
      refine wpAny_bind (wpAny_rule (wpAny_bind (wpAny_holding (wpAny_mono hr (fun _ z2 hr2 => ?_) fun _ _ z => z))))
      obtain ⟨m, hm, hr2⟩ := hr2
      refine wpAny_bind (wpAny_comp_letGo (cenv := { ce with scope := relabel scope env }) hk _ z2 m (fun x hx hl => ?_) hm fun g m' _ sb => wpAny_pure (hr2 g sb))
      rcases List.mem_append.mp hx with w | w
      · exact loc x (List.mem_of_mem_drop w) hl
      · exact loc x (List.mem_of_mem_take w) hl
  | error x =>
    obtain ⟨m, hm, hr⟩ := hr
    exact wpAny_bind (wpAny_holding (wpAny_comp_letGo (cenv := { ce with scope := relabel scope env }) hk _ z m loc hm fun g m' _ sb => wpAny_mono (hr g sb _ rfl rfl) (fun _ _ f => f.elim) fun _ _ y => y))
end
/-- the block's context, its exceptions let out -/
abbrev bx (X : Cx) (s : Shared) (H : Hp) (scope : Scope) (ce : Env) (fp : List Addr) (xe : Value → Shared → Prop) : Cx := (X.blk s H scope ce fp).tr [] xe
theorem frames_but {B h g : Heap} {C : Addr} (sb : Heap.SameBut C h g) : ∀ {l : List Env}, C ∉ frs l → h.FunFrames B l → g.FunFrames B l
  | [], _, _ => trivial
  | e :: l, n, hf => by
    obtain ⟨hk, ⟨L, o, e1, e2, e3, e4⟩, hr⟩ := hf
    have em : frs (e :: l) = L :: frs l := by unfold frs; rw [List.filterMap_cons, e1]
    rw [em] at n
    have nL : L ≠ C := fun z => n (by rw [z]; exact List.mem_cons_self)
    exact ⟨hk, ⟨L, o, e1, e2, (sb.2 L nL).trans e3, e4⟩, frames_but sb (fun z => n (List.mem_cons_of_mem _ z)) hr⟩
section
variable {X : Cx} {pins : List (Addr × Obj)} {σ σb : L2.St} {s s5 s6 : Shared} {H3 H5 : Hp} {E : XK}
/-- what a call within the block lets out comes out of the def -/
theorem blk_out {scope : Scope} {ce : Env} {fp : List Addr} {xe : Value → Shared → Prop} {pb : List (Addr × Obj)} {u : Value} {use : Option (Value → Sem Unit)} {Qf : Value → Shared → Prop} {acc : Value} (tk : Takes X (fun cls d _ H => E cls d H)) (hs : X.stack = X.env :: X.outer) (hf : X.env.frame = some X.env.locals)
    (I3 : L2.Inv X pins σ H3 s) (f3 : ∀ b ∈ fp, FpOk X pins H3 b) (cL : ce.locals = s.heap.objs.size) (cF : ce.frame = X.env.frame) (I5 : L2.Inv (bx X s H3 scope ce fp xe) pb σb H5 s5) (c : CX X.prog X.w X.stack H5 s5 E u s6) :
    notedBy (model X.prog X.w) X.A ce (fun x z => Out (model X.prog X.w) X.A X.xe use Qf acc ce.locals ce.frame (.error x) z) u s6 := by
  have fly : ∃ a B0 cls d, u = .ref a ∧ HandSPX.FlyingZ B0 X.stack a (Zc cls d) s6.heap := by
    obtain ⟨a, B0, _, cls, d, e, fl, _⟩ := c
    exact ⟨a, B0, cls, d, e, fl⟩
  have x6 : XE (bx X s H3 scope ce fp xe) (fun cls d _ H => E cls d H) u s6 := XE.of_call I5 (fun _ _ _ h => h) c
  obtain ⟨a, B, sI, p2, σ2, H2, cls, d, rfl, I2, nb, up, sky, na, os, ag, w⟩ := x6
  obtain ⟨a', B0, cls0, d0, e0, fl0⟩ := fly
  cases e0
  have fl : HandSPX.FlyingZ B X.stack a (Zc cls d) s6.heap := by
    obtain ⟨_, _, _, oe0, vs0, T0, oT0, ts0, k1, _, k3, k4, _, _, k7, k8, k9⟩ := fl0
    rcases sky with ⟨_, _, _, oe, vs, j1, _, j3, j4⟩ | fl | ⟨_, _, _, oe, vs, T, oT, ts, j1, _, j3, j4, _, _, j7, j8, j9⟩
    · rw [k1] at j1
      cases j1
      rw [k3] at j3
      cases j3
      rw [k4] at j4
      cases j4
    · exact fl
    · rw [k1] at j1
      cases j1
      rw [k3] at j3
      cases j3
      rw [k4] at j4
      cases j4
      rw [k7] at j7
      cases j7
      rw [k8] at j8
      cases j8
      rw [k9] at j9
      cases j9
  have nC : ce.locals ∉ frs X.stack := fun hm => by
    obtain ⟨_, o, ho, _⟩ := I2.ok.funs.mem hm
    have h1 : ce.locals < s.heap.objs.size := Heap.lt_size ho
    rw [cL] at h1
    exact absurd h1 (Nat.lt_irrefl _)
  obtain ⟨m, hm, _⟩ := id I2.loc
  have hm : sI.heap.Ns ce.locals m := hm
  obtain ⟨oC, es, ep, hoC, hd, hr⟩ := hm
  have hBC : B.get? ce.locals = some oC := nb _ _ hoC nC
  have hfr : X.A.frames = some (X.env :: X.outer) := by rw [I3.ok.frames, hs]
  unfold notedBy
  rw [note_eq cF]
  rw [hs] at fl
  refine HandSPX.looks_onZ Zc.steady hfr hf fl fun h1 held up1 => ?_
  rw [← hs] at held
  refine ⟨m, ⟨oC, es, ep, held.1 _ _ hBC, hd, hr⟩, fun g sb ev eL eF => ?_⟩
  have sb : Heap.SameBut ce.locals h1 g := sb
  -- the ground without the block's own dict
  have gB : ∀ b o, (PySem.W.hideAll B [ce.locals]).get? b = some o → b ≠ ce.locals ∧ B.get? b = some o := fun b o e => by
    refine ⟨fun z => ?_, PySem.W.of_hideAll _ e⟩
    rw [z, PySem.W.hideAll_none [ce.locals] (List.mem_singleton.mpr rfl)] at e
    cases e
  have gN : ∀ b, B.get? b = none → (PySem.W.hideAll B [ce.locals]).get? b = none := fun b e => by
    cases q : (PySem.W.hideAll B [ce.locals]).get? b with
    | none => rfl
    | some o =>
      rw [(gB b o q).2] at e
      cases e
  obtain ⟨t1, t2, t3, oe, vs, T, oT, ts, j1, j2, j3, j4, j5, j6, j7, j8, j9⟩ := held
  have aC : a ≠ ce.locals := fun z => by rw [z, hBC] at t2; cases t2
  have TC : T ≠ ce.locals := fun z => by rw [z, hBC] at j5; cases j5
  have held2 : HandSPX.HeldZ (PySem.W.hideAll B [ce.locals]) X.stack a (Zc cls d) X.env.locals g :=
    ⟨fun b o e => (sb.2 b (gB b o e).1).trans (t1 b o (gB b o e).2), gN a t2, frames_but sb nC (funFrames_none t3 fun b hb => by
      obtain ⟨_, q⟩ : ∃ q : B.get? b = none, True := ⟨by
        have frN : ∀ (l : List Env), h1.FunFrames B l → b ∈ frs l → B.get? b = none := fun l => by
          induction l with
          | nil => intro _ z; cases z
          | cons ee l ih =>
            intro hl z
            obtain ⟨_, ⟨L, o, e1, e2, _⟩, hr⟩ := hl
            have em : frs (ee :: l) = L :: frs l := by unfold frs; rw [List.filterMap_cons, e1]
            rw [em] at z
            rcases List.mem_cons.mp z with z | z
            · rw [z]; exact e2
            · exact ih hr z
        exact frN _ t3 hb, trivial⟩
      exact gN b (by assumption)), oe, vs, T, oT, ts, (sb.2 a aC).trans j1, j2, j3, j4, gN T j5, j6, (sb.2 T TC).trans j7, j8, j9⟩
  unfold PySem.passOn
  refine wpAny_bind (wpAny_field (held2.2.2.2.choose_spec.choose_spec.choose_spec.choose_spec.choose_spec.1) (held2.2.2.2.choose_spec.choose_spec.choose_spec.choose_spec.choose_spec.2.2.1) (held2.2.2.2.choose_spec.choose_spec.choose_spec.choose_spec.choose_spec.2.2.2.1) ?_)
  rw [if_neg (by simp)]
  rw [eF, cF, hf]
  refine wpAny_bind (HandSPX.setFlight_onZ held2 fun h2 held3 up2 => wpAny_throw (tk _ _ ?_))
  have I7 : L2.Inv X pins σ H2 sI := I3.call' (ch := fp) I2.os I2.base I2.hok I2.bare fun b hb => ⟨(f3 b hb).2.2.2.1, (f3 b hb).2.1, (f3 b hb).2.2.2.2.1, (f3 b hb).2.2.2.2.2⟩
  have n2 : H2 ce.locals = none := I2.free
  obtain ⟨k0, k1, k2, k3, k4, k5⟩ := I3.fpOk (b := ce.locals) (Nat.le_of_eq cL.symm) n2
  refine ⟨a, PySem.W.hideAll B [ce.locals], { sI with heap := PySem.W.hideAll sI.heap [ce.locals] }, pins, σ, H2, cls, d, rfl, I7.turned (it := ce.locals) (t' := sI.toks) (fun b o hb e => PySem.W.hideAll_get _ e fun z => hb (List.mem_singleton.mp z)) k0 k1 k3 k4 k5, fun b o e hb => ?_, fun b o e hnf => ?_, .inr (.inr held3), na, os, ag, w⟩
  · have e1 := PySem.W.of_hideAll [ce.locals] e
    refine PySem.W.hideAll_get _ (nb b o e1 hb) fun z => ?_
    rw [List.mem_singleton.mp z, PySem.W.hideAll_none [ce.locals] (List.mem_singleton.mpr rfl)] at e
    cases e
  · have e : (PySem.W.hideAll sI.heap [ce.locals]).get? b = some o := e
    have e1 := PySem.W.of_hideAll [ce.locals] e
    have bC : b ≠ ce.locals := fun z => by
      rw [z, PySem.W.hideAll_none [ce.locals] (List.mem_singleton.mpr rfl)] at e
      cases e
    obtain ⟨sl1, e2⟩ := up b o e1 hnf
    obtain ⟨sl2, e3⟩ := up1 b _ e2 hnf
    obtain ⟨sl3, e4⟩ := up2 b _ ((sb.2 b bC).trans e3) hnf
    exact ⟨sl3, e4⟩
/-- the rule's heart: the element stands in the block's context, what its call lets out is taken -/
theorem lcx_core {elt tg iter : Expr} {ifs : List Expr} {scope : Scope} {own : List (Str × Nat)} {pos pos' : Pos} {wi : TI} {g : TG} {tt : TT} {te : TE} {use : Option (Value → Sem Unit)} {Qf : Value → Shared → Prop} {H : Hp} {Q : VK} (tk : Takes X (fun cls d _ H => E cls d H)) (hk : X.stack = X.env :: X.outer) (hf : X.env.frame = some X.env.locals)
    (hc : X.calm = true) (hN : X.N.Nodup) (I : L2.Inv X pins σ H s) (hi : PI X tg iter wi) (ok : BlkOk X.N X.env.scope scope own)
    (hg : ∀ (s : Shared) (H : Hp) (C : Addr) (cl : List (Str × Addr)) (fp : List Addr) (xe : Value → Shared → Prop), PG (bx X s H scope (compEnvC scope cl C X.env) fp xe) tg g)
    (ht : ∀ (s : Shared) (H : Hp) (C : Addr) (cl : List (Str × Addr)) (fp : List Addr) (xe : Value → Shared → Prop), PTs (bx X s H scope (compEnvC scope cl C X.env) fp xe) ifs tt)
    (he : ∀ (s : Shared) (H : Hp) (C : Addr) (cl : List (Str × Addr)) (fp : List Addr) (xe : Value → Shared → Prop), (∀ σ, PassesAt (L2.CX X.prog X.w) (bx X s H scope (compEnvC scope cl C X.env) fp xe) σ E) → PE (bx X s H scope (compEnvC scope cl C X.env) fp xe) elt te)
    (hs : ∀ x, foldedSetIterable iter X.env x = pure x) (h : tLc wi g tt te (own.map (·.2)) σ H Q)
    (done : ∀ D C z m H', L2.Inv X pins σ H' z → Q (.ref D) H' → z.heap.Ns C m → FpOk X pins H' C → compPost (model X.prog X.w) X.A X.xe use Qf (.ref D) C (.ok .next) z) :
    wpAny (model X.prog X.w) X.A (comprehension (.ListComp elt [⟨tg, iter, ifs, 0⟩] scope pos) scope X.env pos' (newList []) false (eval iter X.env) use) Qf X.xe s := by
  have fre : ∀ y ∈ scope.names, y.2 = .free → ∃ c, X.env.cells.lookup y.1 = some c := fun y hy e => (ok.free y hy e).elim (fun k => I.ok.has _ (.inl k)) fun k => I.ok.has _ (.inr k)
  refine comp_out (use := use) rfl hs (closure_ok fre) ok.kind (fun y hy e => (ok.uniq y hy).trans (congrArg some e)) (thn (hi.run pins s σ H _ I h) fun xv s1 hx => thn hx fun itv s2 h2 => ?_)
  obtain ⟨it, fp, tn, J, H2, rfl, I2, T, st2, f2, q⟩ := h2
  refine wpAny_newObj_type (newEnv_comp ?_) (Nat.zero_le _)
  obtain ⟨D, hD⟩ : ∃ D, s2.heap.objs.size = D := ⟨_, rfl⟩
  rw [hD]
  have hDn : H2 D = none := I2.hok.fresh (Nat.le_of_eq hD)
  obtain ⟨W, ⟨m0, w0⟩, turn⟩ := q D hDn
  obtain ⟨s3, hs3⟩ : ∃ z : Shared, z = { s2 with heap := s2.heap.push { cls := .type "list", data := .seq ([] : List Value).toArray } } := ⟨_, rfl⟩
  have h3 : s3.heap = s2.heap.push { cls := .type "list", data := .seq ([] : List Value).toArray } := by rw [hs3]
  have I3 : L2.Inv X pins σ (upd H2 D (.lst [])) s3 := by
    rw [hs3]
    exact I2.laid (t' := s2.toks) (fun b o e => Heap.get?_push_of_some _ e) (Nat.le_of_eq hD) ⟨Nat.zero_le _, [], 0, .nil, by rw [← hD]; exact Heap.get?_push_size _ rfl⟩
  have f3 : ∀ b ∈ fp, FpOk X pins (upd H2 D (.lst [])) b ∧ b < s3.heap.objs.size := fun b hb => by
    have lt : b < s2.heap.objs.size := by
      obtain ⟨o, e, _⟩ := T.obj _ _ st2 b hb
      exact Heap.lt_size e
    exact ⟨⟨by rw [upd_ne (by rw [← hD]; exact Nat.ne_of_lt lt)]; exact (f2 b hb).1, (f2 b hb).2⟩, by rw [h3, Heap.size_push]; exact Nat.lt_succ_of_lt lt⟩
  have st3 : tn 0 s3.heap := T.keep _ _ _ st2 fun b _ o e => by rw [h3]; exact Heap.get?_push_of_some _ e
  have I4 := block_start I3 ok hN f3
  obtain ⟨ce, hce⟩ : ∃ z : Env, z = compEnvC scope (cellsFrom (s3.heap.objs.size + 1) scope.names (cloFrom X.env.cells scope.names [])) s3.heap.objs.size X.env := ⟨_, rfl⟩
  obtain ⟨H3, hH3⟩ : ∃ z : Hp, z = upd H2 D (.lst []) := ⟨_, rfl⟩
  have cL : ce.locals = s3.heap.objs.size := by rw [hce] <;> rfl
  have cF : ce.frame = X.env.frame := by rw [hce] <;> rfl
  rw [← hH3] at I3 I4 w0 f3
  rw [← hce] at I4
  obtain ⟨s4, hs4⟩ : ∃ z : Shared, z = { s3 with heap := pushCells (s3.heap.push { cls := .type "dict", data := .dict #[] }) scope.names } := ⟨_, rfl⟩
  rw [← hs4] at I4
  have goalC : codeAny (model X.prog X.w) X.A (.compStart (.ListComp elt [⟨tg, iter, ifs, 0⟩] scope pos) 0 (.ref it) (.ref D) ce) (Out (model X.prog X.w) X.A X.xe use Qf (.ref D) ce.locals ce.frame) s4 := by
    obtain ⟨xe, hxe⟩ : ∃ z : Value → Shared → Prop, z = notedBy (model X.prog X.w) X.A ce (fun x z => Out (model X.prog X.w) X.A X.xe use Qf (.ref D) ce.locals ce.frame (.error x) z) := ⟨_, rfl⟩
    have pg := hg s3 H3 s3.heap.objs.size (cellsFrom (s3.heap.objs.size + 1) scope.names (cloFrom X.env.cells scope.names [])) fp xe
    have pt := ht s3 H3 s3.heap.objs.size (cellsFrom (s3.heap.objs.size + 1) scope.names (cloFrom X.env.cells scope.names [])) fp xe
    have pe := he s3 H3 s3.heap.objs.size (cellsFrom (s3.heap.objs.size + 1) scope.names (cloFrom X.env.cells scope.names [])) fp xe
    rw [← hce] at pg pt pe
    have pe := pe fun σb pb H5 s5 u s6 I5 c => by
      show xe u s6
      rw [hxe]
      exact blk_out tk hk hf I3 (fun b hb => (f3 b hb).1) cL cF I5 c
    have back : ∀ a b, xe a b → notedBy (model X.prog X.w) X.A ce (fun x z => Out (model X.prog X.w) X.A X.xe use Qf (.ref D) ce.locals ce.frame (.error x) z) a b := fun a b z => by rw [← hxe]; exact z
    have I4 : L2.Inv (bx X s3 H3 scope ce fp xe) [] (wipe σ (own.map (·.2))) H3 s4 := I4.toTry xe
    have st4 : tn 0 s4.heap := T.keep _ _ _ st3 fun b _ o e => by rw [hs4]; exact pushCells_keeps _ _ _ _ (Heap.get?_push_of_some _ e)
    have n4 : ∀ b ∈ fp, H3 b = none := fun b hb => (f3 b hb).1.1
    have stat : ∀ {σ' : L2.St} {H' : Hp} {z : Shared}, L2.Inv (bx X s3 H3 scope ce fp xe) [] σ' H' z → (∀ b ∈ fp, H' b = none) → ∀ b ∈ fp, FpOk (bx X s3 H3 scope ce fp xe) [] H' b := fun {σ' H' z} I' n b hb =>
      ⟨n b hb, (I'.ok.exf b hb).1, I'.ok.exfs b hb, .inl hb, (I'.ok.exf b hb).2, fun p hp => by cases hp⟩
    have loop : codeAny (model X.prog X.w) X.A (.compLoop (.ListComp elt [⟨tg, iter, ifs, 0⟩] scope pos) 0 (.ref it) (.ref D) ce) (Out (model X.prog X.w) X.A X.xe use Qf (.ref D) ce.locals ce.frame) s4 := by
      refine compLoop_any (fun n z => ∃ i H', L2.Inv (bx X s3 H3 scope ce fp xe) [] (wipe σ (own.map (·.2))) H' z ∧ tn i z.heap ∧ (∀ b ∈ fp, H' b = none) ∧ W i n H') ?_ m0 ⟨0, H3, I4, st4, n4, w0⟩
      rintro n s5 ⟨i, H5, I5, st5, n5, w5⟩
      rcases turn i n H5 w5 with ⟨stop, qq⟩ | ⟨go, Nx, hNx, step⟩
      · refine thnF (T.done (bx X s3 H3 scope ce fp xe) rfl rfl rfl hc i [] s5 _ H5 (fun _ _ => False) I5 (stat I5 n5) st5 stop) fun r s6 ⟨hr, I6⟩ => ?_
        subst hr
        have n6 : H5 ce.locals = none := I6.free
        obtain ⟨m, hm, _⟩ := I6.loc
        exact done D ce.locals s6 m H5 (I3.call' (ch := fp) I6.os I6.base I6.hok I6.bare fun b hb => ⟨(f3 b hb).1.2.2.2.1, (f3 b hb).1.2.1, (f3 b hb).1.2.2.2.2.1, (f3 b hb).1.2.2.2.2.2⟩) qq hm (I3.fpOk (Nat.le_of_eq cL.symm) n6)
      · refine thnF (T.item (bx X s3 H3 scope ce fp xe) rfl rfl rfl hc i [] s5 _ H5 (fun _ _ => False) I5 (stat I5 n5) st5 go) fun r s6 ⟨u, hr, h6⟩ => ?_
        subst hr
        refine thnF h6 fun _ s7 ⟨x, H7, I7, r7, y7, st7, n7⟩ => ?_
        have I7' := I7.pinned (stat I7 n7) (T.obj _ _ st7)
        refine wpAny_mono (pg.run _ s7 _ H7 x u _ I7' r7 (step x H7 y7)) (fun _ s8 ⟨σ8, H8, I8, hw8, q8⟩ => ?_) fun a b z => back a b z
        refine wpAny_mono (pt.run _ s8 σ8 H8 _ I8 q8) (fun b s9 ⟨H9, I9, q9⟩ => ?_) fun a b z => back a b z
        have fin : ∀ {z : Shared} {H' : Hp}, L2.Inv (bx X s3 H3 scope ce fp xe) ([] ++ pinsAt fp s7.heap) σ8 H' z → Nx H' → ∃ m, m < n ∧ ∃ i H', L2.Inv (bx X s3 H3 scope ce fp xe) [] (wipe σ (own.map (·.2))) H' z ∧ tn i z.heap ∧ (∀ b ∈ fp, H' b = none) ∧ W i m H' := fun {z H'} I' nx => by
          obtain ⟨m', hm, w'⟩ := hNx H' nx
          have pin' : ∀ b ∈ fp, ∀ o, s7.heap.get? b = some o → z.heap.get? b = some o ∧ H' b = none := fun b hb o e => by
            have y := I'.pin (b, o) (List.mem_append_right _ (List.mem_append_right _ (mem_pinsAt hb e)))
            exact ⟨y.1, y.2.1⟩
          refine ⟨m', hm, i + 1, H', (I'.unpinned (pins := [])).weak (by rw [← hw8, wipe_length]) (fun j v e => (wipe_some (show (wipe σ8 (own.map (·.2)))[j]? = some (some v) from by rw [hw8]; exact e)).1), T.keep _ _ _ st7 fun b hb o e => (pin' b hb o e).1, fun b hb => ?_, w'⟩
          obtain ⟨o, e, _⟩ := T.obj _ _ st7 b hb
          exact (pin' b hb o e).2
        cases b with
        | false => exact fin I9 q9
        | true =>
          refine wpAny_mono (pe.run _ s9 σ8 H9 _ I9 q9) (fun y s10 ⟨yv, H10, I10, r10, acc, hD10, hz10, nx⟩ => ?_) fun a b z => back a b z
          exact app_ok (X := bx X s3 H3 scope ce fp xe) I10 hD10 hz10 r10 fun s11 I11 => fin I11 nx
    exact codeAny_compStart_list loop (T.self X.A 0 _ _ _ st4 loop)
  rw [hs4, hce] at goalC
  rw [← hs3]
  exact goalC
/-- name = [..], the name a local of the def -/
theorem ps_setLcX {i : Nat} {y : Str} {py : Pos} {elt tg iter : Expr} {ifs : List Expr} {scope : Scope} {own : List (Str × Nat)} {pos spos : Pos} {wi : TI} {g : TG} {tt : TT} {te : TE} (tk : Takes X (fun cls d _ H => E cls d H)) (hk : X.stack = X.env :: X.outer) (hf : X.env.frame = some X.env.locals)
    (hc : X.calm = true) (hN : X.N.Nodup) (hy : X.N[i]? = some y) (hyl : X.env.scope.names.lookup y = some .local) (hsw : swapsWith (.ListComp elt [⟨tg, iter, ifs, 0⟩] scope pos) (some (.Name y py)) spos.line X.env = pure true) (hi : PI X tg iter wi) (ok : BlkOk X.N X.env.scope scope own)
    (hg : ∀ (s : Shared) (H : Hp) (C : Addr) (cl : List (Str × Addr)) (fp : List Addr) (xe : Value → Shared → Prop), PG (bx X s H scope (compEnvC scope cl C X.env) fp xe) tg g)
    (ht : ∀ (s : Shared) (H : Hp) (C : Addr) (cl : List (Str × Addr)) (fp : List Addr) (xe : Value → Shared → Prop), PTs (bx X s H scope (compEnvC scope cl C X.env) fp xe) ifs tt)
    (he : ∀ (s : Shared) (H : Hp) (C : Addr) (cl : List (Str × Addr)) (fp : List Addr) (xe : Value → Shared → Prop), (∀ σ, PassesAt (L2.CX X.prog X.w) (bx X s H scope (compEnvC scope cl C X.env) fp xe) σ E) → PE (bx X s H scope (compEnvC scope cl C X.env) fp xe) elt te)
    (hs : ∀ x, foldedSetIterable iter X.env x = pure x := by intro _; rfl) : PS X (.Assign [.Name y py] (.ListComp elt [⟨tg, iter, ifs, 0⟩] scope pos) spos) (tAsg (tLc wi g tt te (own.map (·.2))) (gName i)) := by
  refine ⟨fun pins s σ H D I h => ?_⟩
  rw [exec_Assign_Name_used _ _ _ _ hsw]
  refine wpAny_bind (wpAny_standAt (wpAny_bind ?_))
  show wpAny _ X.A (do let _ ← comprehension (.ListComp elt [⟨tg, iter, ifs, 0⟩] scope pos) scope X.env (firstIterPos [⟨tg, iter, ifs, 0⟩] pos) (newList []) false (eval iter X.env) (some (assign (.Name y py) X.env))) _ _ s
  have h1 : tLc wi g tt te (own.map (·.2)) σ H (fun x H1 => gName i x σ H1 D.nx) := h
  refine wpAny_bind (thn (lcx_core (Qf := fun _ z => SP X pins D .next z) tk hk hf hc hN I hi ok hg ht he hs h1 fun L C z m H' I' q hm f => ?_) fun _ z hq => wpAny_pure (wpAny_pure hq))
  obtain ⟨f0, f1, f2, f3, f4, f5⟩ := f
  show wpAny _ _ (assign (.Name y py) X.env (.ref L)) _ _ _
  refine wpAny_assign_Name (store_ok2 (v := V.ref L) I' hN hy (.inl hyl) rfl (fun s2 I2 ⟨a, sb, ha⟩ => ⟨m, hm.sameBut sb ?_, fun g2 sb2 => ⟨_, H', I2.turned (t' := s2.toks) (fun b o hb e => (sb2.2 b hb).trans e) f0 f1 f3 f4 f5, q⟩⟩) (.inr hyl))
  rcases ha with z | z
  · rw [z]
    exact f1
  · exact fun e => f4 y a z e.symm
end
end LcX

namespace Q8
open PySem PySem.Spec PyProof.Rows L2 StX TL RZ LamX NdefX
/-! ### a node -/
abbrev sTr : Stmt := topS 24
abbrev nTr : List Str := ["node", "handlers", "parts", "copy", "function", "name", "_", "mark"]
theorem scTr : FnScope nTr ["node", "handlers"] (defScope sTr) := ⟨rfl, rfl, rfl, by decide +kernel, rfl, by decide +kernel, by decide +kernel⟩
theorem clF_drop {kd k : Str} : ∀ {ps : List MT} {fs : List (List Str)} (i : Nat), ∃ r, clF kd k ps fs = clF kd k (ps.take i) fs ++ r
  | [], fs, i => ⟨[], by rw [List.take_nil, clF_nil]; rfl⟩
  | m :: r, [], i => ⟨[], by
    cases i with
    | zero => rw [List.take_zero, clF_nil, clF_nil2]; rfl
    | succ i => rw [List.take_succ_cons, clF_nil2, clF_nil2]; rfl⟩
  | m :: r, f :: fs, 0 => ⟨_, by rw [List.take_zero, clF_nil]; rfl⟩
  | m :: r, f :: fs, i + 1 => by
    obtain ⟨z, e⟩ := clF_drop (kd := kd) (k := k) (ps := r) (fs := fs) i
    exact ⟨z, by rw [List.take_succ_cons, clF_cons, clF_cons, e, List.append_assoc]⟩
section
variable {P : Program} {w : World} {K : PySem.W.Frag} {mg : Str → Option Value} {base : Heap} {C CT CB CN fB aF aA : Addr} {Cs : Nat → Addr} {eF : Array DictEntry} {nF : Nat}
theorem no_tr {f : Addr} {fd : FuncData} {k : Nat} {ps : List Str} : FnOk P w K mg base (L2.CX P w) k f fd ps (spTr K C CB Cs 0) := by
  have no : ∀ vs H Q E, ¬ spTr K C CB Cs 0 vs H Q E := fun vs H Q E h => by
    obtain ⟨_, _, _, _, _, _, _, _, _, _, _, _, _, _, h1, _⟩ := h
    omega
  exact ⟨fun vs H Q E h => absurd h (no vs H Q E), fun A outer s H args us vs Q E _ _ _ _ h => absurd h (no vs H Q E)⟩
theorem ok_tr {f fV fP fA fG fS : Addr} {fd dV dP dA dG : FuncData} (F : Fun K "_transformed" "_transformed" sTr f fd) (T : Tabs K w mg aF aA eF nF) (Z : Blt mg) (W : ValI K C Cs) (Ni : NodeI K C) (Nf : NodeF K C)
    (WP : FnOk P w K mg base CX0 7 fP dP ["node", "parts"] (spWp C)) (bP : Binds K dP ["node", "parts"] []) (kP : PySem.W.keepIn K (.ref fP) = true) (mP : mg "with_parts" = some (.ref fP))
    (AC : FnOk P w K mg base CX0 8 fA dA ["_law_node_here", "_law_way", "_law_start", "_law_met"] (spAc K C)) (bA : Binds K dA ["_law_node_here", "_law_way", "_law_start", "_law_met"] []) (kA : PySem.W.keepIn K (.ref fA) = true) (mA : mg "_law_acted" = some (.ref fA))
    {n k : Nat} (hk : 9 ≤ k) (NV : FnOk P w K mg base (L2.CX P w) k fV dV ["node", "name", "mark", "handlers"] (spNv K C CB Cs n)) (bV : Binds K dV ["node", "name", "mark", "handlers"] []) (kV : PySem.W.keepIn K (.ref fV) = true) (mV : mg "_new_value" = some (.ref fV)) :
    FnOk P w K mg base (L2.CX P w) (k + 1) f fd ["node", "handlers"] (spTr K C CB Cs (n + 1)) := by
  refine F.okX scTr (fun vs H Q E h => ?_) (fun cdv A outer s H vs Q E hr h => ?_)
  · obtain ⟨_, _, _, _, _, _, _, _, _, rfl, _⟩ := h
    rfl
  obtain ⟨h, c, nd, d, pl, sp, p, kk, ps, rfl, hh, hm, hso, hcf, hgt, hlen, q⟩ := h
  have hr9 := hr.mono hk
  have hr7 := hr.mono (show 7 ≤ k by omega)
  refine ⟨_, (pss_cons (LcX.ps_setLcX (i := 2) (own := [("name", 5), ("_", 6), ("mark", 7)]) (g := gTup K 3 (gCons (gName 5) (gCons (gName 6) (gCons (gName 7) gNil)))) (tt := tYes) (takes_of rfl rfl rfl rfl) rfl rfl rfl scTr.nd rfl rfl (sw_true rfl rfl rfl (by decide +kernel))
      (pi_tup (pe_ix ix_kdict (pe_glob (v := .ref aF) rfl T.mF rfl) (pe_fld (pv 0) rfl) (fun _ _ => rfl))) (blkOk_by (own := [("name", 5), ("_", 6), ("mark", 7)]) (N := nTr) (sc := defScope sTr) (by decide +kernel))
      (fun _ _ _ _ _ _ => pg_tup rfl (pgs_cons (pg_name (i := 5) scTr.nd rfl (.inl rfl)) (pgs_cons (pg_name (i := 6) scTr.nd rfl (.inl rfl)) (pgs_cons (pg_name (i := 7) scTr.nd rfl (.inl rfl)) pgs_nil)))) (fun _ _ _ _ _ _ => pts_nil)
      (fun _ _ _ _ _ _ pa => pe_callS (E := fun _ => E) NV hr rfl mV kV bV pa (pa_cons (pv 0) (pa_cons (pv 5) (pa_cons (pv 7) (pa_cons (pv 1) pa_nil))))))
    (pss_cons (ps_set (i := 3) scTr.nd rfl (.inl rfl) (pe_call WP hr7 rfl mP kP bP .nil pass0 (pa_cons (pv 0) (pa_cons (pv 2) pa_nil))))
    (C8.pss_cut (ps_if (pt_cmp (pc_dnotin (hu_of hr) (pe_fld (pv 0) rfl) (pv 1))) (pss_one (ps_ret (pv 3))) pss_nil)
    (pss_cons (ps_set (i := 4) scTr.nd rfl (.inl rfl) (pe_dget (hu_of hr) (pv 1) (pe_fld (pv 0) rfl) (fun _ _ => rfl)))
    (pss_one (ps_ret (pe_hand (i := 4) AC bA kA mA hr9 rfl (.inl rfl) (pa_cons (pv 3) pa_nil)))))))), ?_⟩
  have mnH : Same (mn h H) H := res_out
  have hm0 := hm
  have hso0 := hso
  cases hm with
  | @md _ _ _ _ _ sx h1 h2 h3 h4 h5 h6 h7 h8 =>
  obtain ⟨dx, dn, rs, mm, vs, g1, g2, g3, row, lv, sl⟩ : ∃ (dx dn : Addr) (rs : List (Str × Str × Str)) (mm : List (Key × V)) (vs : List V), nd d = some p ∧ mn h H p = some (.ins C dx (nodeFs kk mm dn)) ∧ mn h H dn = some (.dK (fkv (namesOf rs) vs)) ∧ Fld.lookup kk = some rs ∧ vs.length = rs.length ∧ SoL C nd (mn h H) (mn h H) ps vs := by
    cases hso with
    | md a1 a2 a3 a4 a5 a6 a7 => exact ⟨_, _, _, _, _, a1, a2, a3, a4, a5, a7⟩
  obtain ⟨cfs, fits⟩ : (∀ m ∈ ps, CfM m) ∧ FitsL kk ps := by
    cases hcf with
    | md a b => exact ⟨a, b⟩
  have hp := mnH _ _ g2
  have hdn := mnH _ _ g3
  rw [hgt_md] at hgt
  rw [mds_md, List.length_cons] at hlen
  obtain ⟨okr, same⟩ := fields_row row
  have rl := sameRow_len same
  have hs7 := rows_small row
  have hnn := rows_nodup row
  have zS : (1000 : Nat) < sizeLine := by decide
  obtain ⟨a, ha, as, hs, hla, hat⟩ := fldIs_at T.oF row
  refine ⟨_, rfl, p, C, dx, _, .str kk, rfl, hp, Nf.cl, Nf.n1, rfl, aF, kk, .ref a, rfl, rfl, T.kd ha, a, rfl, ⟨_, hs H⟩, fun D nD => ?_⟩
  have mtD : h.mt ≠ D := hh.ne nD
  have hh1 := hh.same (same_new (o := .lst []) nD)
  refine lc_tup (K := K) (a := a) (xs := as.map V.ref) (fun i H' => KpX [h.mt] H H' ∧ ∃ (c' : Nat) (acc : List V), H' h.mt = some (.lst (List.replicate c' (.str h.kd))) ∧ scan h.st h.wy c (clF h.kd kk (ps.take i) (fieldsP kk)) = none ∧ c' = c + (clF h.kd kk (ps.take i) (fieldsP kk)).length ∧ H' D = some (.lst acc) ∧ acc.length = i)
    ⟨KpX.same (same_new nD), c, [], hh1.met, by rw [List.take_zero, clF_nil, scan], by rw [List.take_zero, clF_nil]; rfl, upd_same, rfl⟩ (fun i H' _ _ => hs H') ?_ ?_
  · rintro i x H3 hx ⟨k3, c', acc, m3, sc3, ec, hD3, la⟩
    have hh3 : HdAt h H3 c' := hh.up k3 m3
    rw [List.getElem?_map] at hx
    obtain ⟨b, hb, rfl⟩ := Option.map_eq_some_iff.mp hx
    have hi : i < rs.length := by
      have := (List.getElem?_eq_some_iff.mp hb).1
      omega
    obtain ⟨r, hr'⟩ : ∃ r, rs[i]? = some r := ⟨_, List.getElem?_eq_getElem hi⟩
    obtain ⟨m, hmi⟩ : ∃ m, ps[i]? = some m := ⟨_, List.getElem?_eq_getElem (by omega)⟩
    obtain ⟨v, hvi⟩ : ∃ v, vs[i]? = some v := ⟨_, List.getElem?_eq_getElem (by omega)⟩
    obtain ⟨fp, hfp⟩ : ∃ fp, (fieldsP kk)[i]? = some fp := ⟨_, List.getElem?_eq_getElem (by omega)⟩
    obtain ⟨nm, wh, efp, fit⟩ := fits i m fp hmi hfp
    subst efp
    have mk := mark_at row hfp hr'
    have en : nm = r.1 := by
      unfold markOk at mk
      exact of_decide_eq_true (Bool.and_eq_true_iff.mp mk).1
    subst en
    have mmem := List.mem_of_getElem? hmi
    have mA := h8.mem m mmem
    have so := sl.get hmi hvi
    obtain ⟨rest, erest⟩ := clF_drop (kd := h.kd) (k := kk) (ps := ps) (fs := fieldsP kk) (i + 1)
    have etake := clF_snoc (kd := h.kd) (k := kk) hmi hfp
    rw [show ([r.1, wh] : List Str).headD "" = r.1 from rfl, show ([r.1, wh] : List Str).getD 1 "" = wh from rfl] at etake
    have whole : ∀ z, scan h.st h.wy c' (m.cl h.kd kk r.1 wh) = some z → scan h.st h.wy c (clF h.kd kk ps (fieldsP kk)) = some z := fun z e => by
      rw [erest, etake, List.append_assoc, scan_right sc3, ← ec]
      exact scan_left e
    have hvv : valV (fkv (namesOf rs) vs) (.inr r.1) = some v := valV_fkv hnn (by unfold namesOf; rw [List.getElem?_map, hr']; rfl) hvi
    have fa : FldAt C Cs nd h H p kk r.1 wh r.2.2 m v := ⟨dx, dn, mm, fkv (namesOf rs) vs, r.2.1, hp, hdn, hvv, mA, so, cfs m mmem, fit, mk⟩
    have hg := hgtL_at hmi
    have lcl : (clF h.kd kk (ps.take i) (fieldsP kk)).length + m.mds.length ≤ (mdsL ps).length := by
      have z1 := ((cl_len h.kd (hgtL (ps.take i) + 1)).2 (ps.take i) (Nat.lt_succ_self _)).2 kk (fieldsP kk)
      have z2 := (mdsL_take (ms := ps) (i + 1)).length_le
      rw [take_snoc hmi, mdsL_app, mdsL_cons, mdsL_nil, List.append_nil, List.length_append] at z2
      omega
    refine ⟨b, [.str r.1, .str r.2.1, .str r.2.2], rfl, hat i b r hb hr' H3, rfl, _, _, rfl, _, _, rfl, _, _, rfl, rfl, rfl, ?_⟩
    unfold tYes
    refine iteT ?_
    refine ⟨_, rfl, _, rfl, _, rfl, _, rfl, h, c', nd, p, kk, r.1, wh, r.2.2, m, v, rfl, hh3, fa.up hh k3, by omega, by omega, Cz.of (fun z e => ?_) (fun e => ?_)⟩
    · exact (q.raise (whole z e)).up k3
    intro H4 v4 k4 m4 _
    have hD4 := k4 _ _ (fun z => mtD (List.mem_singleton.mp z).symm) hD3
    refine ⟨acc, hD4, by omega, KpX.new (k3.tr k4) nD, c' + (m.cl h.kd kk r.1 wh).length, acc ++ [v4], by rw [upd_ne mtD]; exact m4, ?_, ?_, upd_same, by rw [List.length_append, la]; rfl⟩
    · rw [etake, scan_right sc3, ← ec]
      exact e
    · rw [etake, List.length_append]
      omega
  rintro H3 ⟨k3, c', acc, m3, sc3, ec, hD3, la⟩
  have elen : (as.map V.ref).length = ps.length := by rw [List.length_map]; omega
  rw [elen, List.take_length] at sc3 ec
  rw [elen] at la
  have hh3 : HdAt h H3 c' := hh.up k3 m3
  have hp3 := k3 _ _ (mt_ne hh hp fun _ z => by cases z) hp
  refine ⟨_, rfl, _, rfl, p, dx, dn, D, kk, mm, rs, acc, rfl, hp3, row, hD3, by omega, fun H4 y dy fs s4 hy ky => ?_⟩
  have hh4 := hh3.same s4
  have k4 : KpX [h.mt] H H4 := k3.tr (KpX.same s4)
  have hp4 := s4 _ _ hp3
  have vz := q.value sc3
  have dg := DGet.k (k := Sum.inr kk) hh4.dict
  refine ⟨fun σ H' => σ = [some (.ref p), some (.ref h.hd), some (.ref D), some (.ref y), none, none, none, none] ∧ H4 = H' ∧ kk = h.kd, ?_, ?_⟩
  · refine ⟨_, rfl, p, C, dx, _, .str kk, rfl, hp4, Nf.cl, Nf.n1, rfl, _, rfl, h.hd, _, rfl, dg, ?_⟩
    by_cases e : kk = h.kd
    · rw [show valV [((.inr h.kd : Key), V.ref h.g)] (Sum.inr kk) = some (.ref h.g) from valV_pos (by rw [e])]
      exact ⟨_, rfl, iteF ⟨rfl, rfl, e⟩⟩
    · rw [show valV [((.inr h.kd : Key), V.ref h.g)] (Sum.inr kk) = none from valV_neg fun z => e (Sum.inr.inj z).symm]
      refine ⟨_, rfl, iteT ⟨_, rfl, vz H4 (.ref y) k4 ?_ ?_⟩⟩
      · rw [if_neg e, Nat.add_zero, ← ec]
        exact hh4.met
      · unfold ansR
        rw [if_neg e]
        exact ⟨y, dy, fs, rfl, hy, kk, ky⟩
  rintro σ H' ⟨rfl, rfl, e⟩
  subst e
  refine ⟨_, rfl, _, rfl, p, C, dx, _, .str h.kd, rfl, hp4, Nf.cl, Nf.n1, rfl, h.hd, .ref h.g, rfl, ?_, ?_⟩
  · rw [show valV [((.inr h.kd : Key), V.ref h.g)] (Sum.inr h.kd) = some (.ref h.g) from valV_pos rfl] at dg
    exact dg
  have lb := ((cl_len h.kd (hgtL ps + 1)).2 ps (Nat.lt_succ_self _)).2 h.kd (fieldsP h.kd)
  refine ⟨h.g, h.F, h.wy, h.st, h.mt, rfl, hh4.isF, hh4.lam, _, rfl, hh4.lam, y, dy, fs, h.kd, _, rfl, hy, ky, hh.w19, hh4.met, by rw [List.length_replicate]; omega, fun H5 v5 k5 m5 rv => ?_⟩
  refine vz H5 v5 (k4.tr fun b o n e => k5 b o (fun z => n (List.mem_singleton.mpr z)) e) ?_ ?_
  · rw [if_pos rfl, m5, ec, ← List.replicate_succ', Nat.add_assoc]
  · unfold ansR
    rw [if_pos rfl]
    rw [List.length_replicate, ec] at rv
    exact rv
end
end Q8

namespace QTry
open PySem PySem.Spec PyProof.Rows L2
/-! ### except clauses, some with a name, some without -/
def wMx (K : PySem.W.Frag) (Wout : WX) (i : Nat) (D : Ends) : List (Bool × Value × (Addr → Value → Option Addr → TS)) → WX
  | [] => Wout
  | (nm, c, ts) :: r => fun cls d σ H => ∃ b, PySem.W.exmOne K cls c = some b ∧
      (b = true → ∀ a, H a = none → if nm = true then ts a cls d { nx := fun σ' H' => D.nx (σ'.set i none) H', rt := D.rt, bk := fun σ' H' => D.bk (σ'.set i none) H', ct := fun σ' H' => D.ct (σ'.set i none) H' } (σ.set i (some (.ref a))) H else ts a cls d D σ H) ∧
      (b = false → wMx K Wout i D r cls d σ H)
inductive HdsMx (X : Cx) (n : Str) : List ExceptHandler → List (Bool × Value × (Addr → Value → Option Addr → TS)) → Prop
  | nil : HdsMx X n [] []
  | cons {x : Str} {c : Value} {ts : Addr → Value → Option Addr → TS} {b₀ : Stmt} {suite : List Stmt} {np pos' : Pos} {hds : List ExceptHandler} {l : List (Bool × Value × (Addr → Value → Option Addr → TS))} (hc : Names X x c)
      (hsu : ∀ (a : Addr) (oe : Obj) (cls : Value) (d : Option Addr) (pn : List (Addr × Obj)), Zc cls d oe → (∃ vs, oe.data = .fields vs) → PSs (X.suite a ((a, oe) :: pn)) (b₀ :: suite) (ts a cls d)) (r : HdsMx X n hds l) :
      HdsMx X n (.ExceptHandler (some (.Name x np)) (some n) (b₀ :: suite) pos' :: hds) ((true, c, ts) :: l)
  | bare {x : Str} {c : Value} {ts : Addr → Value → Option Addr → TS} {b₀ : Stmt} {suite : List Stmt} {np pos' : Pos} {hds : List ExceptHandler} {l : List (Bool × Value × (Addr → Value → Option Addr → TS))} (hc : Names X x c)
      (hsu : ∀ (a : Addr) (oe : Obj) (cls : Value) (d : Option Addr) (pn : List (Addr × Obj)), Zc cls d oe → (∃ vs, oe.data = .fields vs) → PSs (X.suite a ((a, oe) :: pn)) (b₀ :: suite) (ts a cls d)) (r : HdsMx X n hds l) :
      HdsMx X n (.ExceptHandler (some (.Name x np)) none (b₀ :: suite) pos' :: hds) ((false, c, ts) :: l)
section
variable {X : Cx} {n : Str} {i : Nat} {body : List Stmt} {h₀ : ExceptHandler} {hds : List ExceptHandler} {l : List (Bool × Value × (Addr → Value → Option Addr → TS))} {pos : Pos} {tb : WX → TS} {Wout : WX}
theorem ps_try_mx (hs : X.stack = X.env :: X.outer) (hf : X.env.frame = some X.env.locals) (hN : X.N.Nodup) (hi : X.N[i]? = some n) (hln : X.env.kindOf n = some .local) (tk : Takes X Wout)
    (hb : ∀ (W : WX) (pn : List (Addr × Obj)) (xe : Value → Shared → Prop), Takes (X.tr pn xe) W → PassesOwn (model X.prog X.w) X.A X.env xe → PSs (X.tr pn xe) body (tb W))
    (hh : HdsMx X n (h₀ :: hds) l) : PS X (.Try body (h₀ :: hds) [] [] pos) (fun D σ H => tb (wMx X.K Wout i D l) D σ H) := by
  refine ⟨fun pins s σ H D I h => ?_⟩
  have ok := I.ok
  have hfr : X.A.frames = some (X.env :: X.outer) := by rw [ok.frames, hs]
  have hloc : Loc X.env.scope n := .inl hln
  refine wpAny_Try_except ?_
  refine wpAny_mono ((hb (wMx X.K Wout i D l) (X.pn ++ pins) (fun e s₁ => wpAny (model X.prog X.w) X.A (noteFrame e X.env) (fun _ s₂ => wpAny (model X.prog X.w) X.A (setFlight e none) (fun _ s₃ =>
    wpAny (model X.prog X.w) X.A (handleBy e X.env (h₀ :: hds)) (SP X pins D) X.xe s₃) X.xe s₂) X.xe s₁) (fun u s' xx => ?_) PassesOwn.looking).run [] s σ H D (I.toTry _) h) (fun f s1 hsp => ?_) (fun e s1 he => he)
  · -- the catch
    obtain ⟨a, B, sI, pins', σ', H', cls, d, rfl, J', nb, up, sky, na, os, ag, w⟩ := xx
    have J : Inv X pins σ' H' sI := J'.ofTry ok
    have sky' : Sky B (X.env :: X.outer) a (Zc cls d) X.env.locals s'.heap := by rw [← hs]; exact sky
    show wpAny (model X.prog X.w) X.A (noteFrame (.ref a) X.env) _ _ _
    refine Sky.land Zc.steady hfr hf sky' fun h3 fl3 up3 => ?_
    have J3 : Inv X pins σ' H' { s' with heap := h3 } := J.landed nb fl3.1 (up.trans up3) os ag
    obtain ⟨oe3, vs3, he3, hz3, hd3⟩ := fl3.there
    have notFr : ∀ {h : Heap} {o : Obj} {vs : Array Value}, h.FunFrames B (X.env :: X.outer) → h.get? a = some o → o.data = .fields vs → a ∉ frs (X.env :: X.outer) := fun {h o vs} ff e dd hm => by
      obtain ⟨_, o', e', hnf⟩ := ff.mem hm
      rw [e] at e'; cases e'
      exact hnf _ dd
    have nfr := notFr fl3.2.2.1 he3 hd3
    have nL : a ≠ X.env.locals := fun z => nfr (List.mem_filterMap.mpr ⟨X.env, List.mem_cons_self, by rw [hf, z]⟩)
    have nF : a ∉ X.fs := fun hm => by
      obtain ⟨e, he, q⟩ := List.mem_filterMap.mp hm
      exact nfr (List.mem_filterMap.mpr ⟨e, List.mem_cons_of_mem _ he, q⟩)
    have S3 := J3.suite he3 hd3 na nL nF
    have go : ∀ {hds' : List ExceptHandler} {l' : List (Bool × Value × (Addr → Value → Option Addr → TS))}, HdsMx X n hds' l' → wMx X.K Wout i D l' cls d σ' H' →
        wpAny (model X.prog X.w) X.A (handleBy (.ref a) X.env hds') (SP X pins D) X.xe { s' with heap := h3 } := by
      intro hds' l' hk
      induction hk with
      | nil =>
        intro w
        refine wpAny_handleBy_nil ?_
        obtain ⟨k1, k2, k3, oe, vs, T, oT, ts', he, hz, hd, h1, hr⟩ := id fl3
        unfold PySem.passOn
        refine wpAny_bind (wpAny_field he hd h1 ?_)
        rw [if_neg (show ¬ ((Value.ref T == Value.none) = true) from by simp)]
        have fin : wpAny (model X.prog X.w) X.A (setFlight (.ref a) X.env.frame) (fun _ s4 => wpAny (model X.prog X.w) X.A (throw (.ref a) : Sem Flow) (SP X pins D) X.xe s4) X.xe { s' with heap := h3 } := by
          rw [hf]
          refine HandSPX.setFlight_upZ fl3 fun h4 hh4 up4 => wpAny_throw (tk _ _ ?_)
          exact ⟨a, B, sI, pins, σ', H', cls, d, rfl, J, nb, (up.trans up3).trans up4, .inr (.inr (by rw [hs]; exact hh4)), na, os, ag, w⟩
        first
          | exact wpAny_bind (wpAny_pure (wpAny_bind fin))
          | exact wpAny_bind fin
      | @cons x c ts b₀ suite np pos' hds2 l2 hc hsu r ih =>
        intro w
        obtain ⟨b, hb1, hyes, hno⟩ := w
        refine wpAny_handleBy_cons (codeAny_handlers_test ?_) (by intro q; cases q)
        have LT : PySem.W.Looks (model X.prog X.w) h3 (typeOf (.ref a)) cls := fun A Q E s k q => wpAny_typeOf_ref (k _ _ he3) (by rw [hz3.1]; exact q)
        have LM := PySem.W.exm_one (M := model X.prog X.w) (J3.kIn) LT hb1
        have test : ∀ {Q : Value → Shared → Prop} {E : Value → Shared → Prop}, Q c { s' with heap := h3 } → wpAny (model X.prog X.w) (X.A.mark (some (.ref a))) (eval (.Name x np) X.env) Q E { s' with heap := h3 } := fun {Q E} q => by
          obtain ⟨hg, hdbg, hm | ⟨hm, hv, hnn⟩⟩ := hc
          · exact ld_glob (X := X.suite a ((a, oe3) :: (X.pn ++ pins))) S3 hg hm q hdbg
          · exact ld_blt (X := X.suite a ((a, oe3) :: (X.pn ++ pins))) S3 hg hm hv q hnn hdbg
        refine test (LM.here ?_)
        cases b with
        | true =>
          refine codeAny_handlers_suite_as ?_
          refine HandSPX.lands_againZ fl3 fun h4 fl4 up4 => ?_
          have J4 : Inv X pins σ' H' { s' with heap := h4 } := J.landed nb fl4.1 ((up.trans up3).trans up4) os ag
          obtain ⟨oe4, vs4, he4, hz4, hd4⟩ := fl4.there
          have S4 := J4.suite he4 hd4 na nL nF
          refine store_ok (X := X.suite a ((a, oe4) :: (X.pn ++ pins))) (v := .ref a) S4 hN hi hloc rfl (fun s5 S5 => ?_) (.inr hln)
          refine wpAny_mono ((hsu a oe4 cls d (X.pn ++ pins) hz4 ⟨_, hd4⟩).run [] s5 _ H' _ S5 (hyes rfl a na)) (fun f s6 hsp => ?_) (fun _ _ z => False.elim z)
          have end_ : ∀ {σ6 : L2.St} {H6 : Hp} {Q : Shared → Prop}, Inv (X.suite a ((a, oe4) :: (X.pn ++ pins))) [] σ6 H6 s6 → (∀ s7, Inv X pins (σ6.set i none) H6 s7 → Q s7) →
              wpAny (model X.prog X.w) X.A (do bindName X.env n .none; unbindBehindTheSuite X.env n pos') (fun _ s7 => Q s7) X.xe s6 := fun {σ6 H6 Q} S6 hq => gone_ok (S6.unsuite ok) hN hi hln hq
          cases f with
          | next =>
            obtain ⟨σ6, H6, S6, q6⟩ := hsp
            exact end_ S6 fun s7 J7 => ⟨_, _, J7, q6⟩
          | brk =>
            obtain ⟨σ6, H6, S6, q6⟩ := hsp
            exact end_ S6 fun s7 J7 => ⟨_, _, J7, q6⟩
          | cont =>
            obtain ⟨σ6, H6, S6, q6⟩ := hsp
            exact end_ S6 fun s7 J7 => ⟨_, _, J7, q6⟩
          | ret u =>
            obtain ⟨v6, σ6, H6, S6, r6, q6⟩ := hsp
            exact end_ S6 fun s7 J7 => ⟨_, _, _, J7, r6, q6⟩
        | false =>
          show wpAny _ X.A (handleBy (.ref a) X.env hds2) _ _ _
          exact ih (hno rfl)
      | @bare x c ts b₀ suite np pos' hds2 l2 hc hsu r ih =>
        intro w
        obtain ⟨b, hb1, hyes, hno⟩ := w
        refine wpAny_handleBy_cons (codeAny_handlers_test ?_) (by intro q; cases q)
        have LT : PySem.W.Looks (model X.prog X.w) h3 (typeOf (.ref a)) cls := fun A Q E s k q => wpAny_typeOf_ref (k _ _ he3) (by rw [hz3.1]; exact q)
        have LM := PySem.W.exm_one (M := model X.prog X.w) (J3.kIn) LT hb1
        have test : ∀ {Q : Value → Shared → Prop} {E : Value → Shared → Prop}, Q c { s' with heap := h3 } → wpAny (model X.prog X.w) (X.A.mark (some (.ref a))) (eval (.Name x np) X.env) Q E { s' with heap := h3 } := fun {Q E} q => by
          obtain ⟨hg, hdbg, hm | ⟨hm, hv, hnn⟩⟩ := hc
          · exact ld_glob (X := X.suite a ((a, oe3) :: (X.pn ++ pins))) S3 hg hm q hdbg
          · exact ld_blt (X := X.suite a ((a, oe3) :: (X.pn ++ pins))) S3 hg hm hv q hnn hdbg
        refine test (LM.here ?_)
        cases b with
        | true =>
          refine codeAny_handlers_suite ?_
          refine HandSPX.lands_againZ fl3 fun h4 fl4 up4 => ?_
          have J4 : Inv X pins σ' H' { s' with heap := h4 } := J.landed nb fl4.1 ((up.trans up3).trans up4) os ag
          obtain ⟨oe4, vs4, he4, hz4, hd4⟩ := fl4.there
          have S4 := J4.suite he4 hd4 na nL nF
          refine wpAny_mono ((hsu a oe4 cls d (X.pn ++ pins) hz4 ⟨_, hd4⟩).run [] _ _ H' _ S4 (hyes rfl a na)) (fun f s6 hsp => ?_) (fun _ _ z => False.elim z)
          cases f with
          | next =>
            obtain ⟨σ6, H6, S6, q6⟩ := hsp
            exact ⟨_, _, S6.unsuite ok, q6⟩
          | brk =>
            obtain ⟨σ6, H6, S6, q6⟩ := hsp
            exact ⟨_, _, S6.unsuite ok, q6⟩
          | cont =>
            obtain ⟨σ6, H6, S6, q6⟩ := hsp
            exact ⟨_, _, S6.unsuite ok, q6⟩
          | ret u =>
            obtain ⟨v6, σ6, H6, S6, r6, q6⟩ := hsp
            exact ⟨_, _, _, S6.unsuite ok, r6, q6⟩
        | false =>
          show wpAny _ X.A (handleBy (.ref a) X.env hds2) _ _ _
          exact ih (hno rfl)
    exact go hh w
  · cases f with
    | next =>
      obtain ⟨σ', H', J', q⟩ := hsp
      exact wpAny_execs_nil ⟨σ', H', J'.ofTry ok, q⟩
    | brk =>
      obtain ⟨σ', H', J', q⟩ := hsp
      exact ⟨σ', H', J'.ofTry ok, q⟩
    | cont =>
      obtain ⟨σ', H', J', q⟩ := hsp
      exact ⟨σ', H', J'.ofTry ok, q⟩
    | ret u =>
      obtain ⟨v, σ', H', J', r, q⟩ := hsp
      exact ⟨v, σ', H', J'.ofTry ok, r, q⟩
end
end QTry

namespace Q8
open PySem PySem.Spec PyProof.Rows L2 StX TL RZ LamX NdefX
/-! ### the whole recursion; transform -/
section
variable {P : Program} {w : World} {K : PySem.W.Frag} {mg : Str → Option Value} {base : Heap} {C CT CB CN fB aF aA : Addr} {Cs : Nat → Addr} {eF : Array DictEntry} {nF : Nat}
theorem ok_trs {fT fV fW fP fA fG fS fL fI fC : Addr} {dT dV dW dP dA dG dL dI dC dB : FuncData} (FT : Fun K "_transformed" "_transformed" sTr fT dT) (FV : Fun K "_new_value" "_new_value" sNv fV dV) (FW : Fun K "_new_items" "_new_items" sNw fW dW)
    (bT : Binds K dT ["node", "handlers"] []) (bV : Binds K dV ["node", "name", "mark", "handlers"] []) (bW : Binds K dW ["node", "name", "handlers"] []) (mT : mg "_transformed" = some (.ref fT)) (mV : mg "_new_value" = some (.ref fV)) (mW : mg "_new_items" = some (.ref fW))
    (T : Tabs K w mg aF aA eF nF) (Z : Blt mg) (W : ValI K C Cs) (Ni : NodeI K C) (Nf : NodeF K C) (Nc : NodeC K C fG fS) (mN : mg "Node" = some (.ref C))
    (GT : FnOk P w K mg base CX0 1 fG dG ["self", "at"] (spGet C)) (bG : Binds K dG ["self", "at"] [])
    (FL : FnOk P w K mg base CX0 1 fL dL ["made"] (spFL K C)) (bL : Binds K dL ["made"] []) (kL : PySem.W.keepIn K (.ref fL) = true) (mL : mg "_fits_list" = some (.ref fL))
    (AI : FnOk P w K mg base CX0 1 fI dI ["made"] (spAI K C)) (bI : Binds K dI ["made"] []) (kI : PySem.W.keepIn K (.ref fI) = true) (mI : mg "_as_items" = some (.ref fI))
    (CO : FnOk P w K mg base CX0 1 fC dC ["value"] (spCo K C)) (bC : Binds K dC ["value"] []) (kC : PySem.W.keepIn K (.ref fC) = true) (mC : mg "copied" = some (.ref fC))
    (B : BadC K mg CT CB CN fB) (BC : FnOk P w K mg base CX0 1 fB dB ["self", "kind", "name"] (spBc CB)) (bB : Binds K dB ["self", "kind", "name"] [])
    (WP : FnOk P w K mg base CX0 7 fP dP ["node", "parts"] (spWp C)) (bP : Binds K dP ["node", "parts"] []) (kP : PySem.W.keepIn K (.ref fP) = true) (mP : mg "with_parts" = some (.ref fP))
    (AC : FnOk P w K mg base CX0 8 fA dA ["_law_node_here", "_law_way", "_law_start", "_law_met"] (spAc K C)) (bA : Binds K dA ["_law_node_here", "_law_way", "_law_start", "_law_met"] []) (kA : PySem.W.keepIn K (.ref fA) = true) (mA : mg "_law_acted" = some (.ref fA)) :
    ∀ n, FnOk P w K mg base (L2.CX P w) (9 + 3 * n) fT dT ["node", "handlers"] (spTr K C CB Cs n)
  | 0 => no_tr
  | n + 1 => by
    have TR := ok_trs FT FV FW bT bV bW mT mV mW T Z W Ni Nf Nc mN GT bG FL bL kL mL AI bI kI mI CO bC kC mC B BC bB WP bP kP mP AC bA kA mA n
    have NW := ok_nw FW Z W Ni Nf Nc mN GT bG FL bL kL mL AI bI kI mI CO bC kC mC B BC bB (show 2 ≤ 9 + 3 * n by omega) TR bT FT.kp mT
    have NV := ok_nv FV Z W Ni Nf Nc mN GT bG B BC bB (show 2 ≤ 9 + 3 * n + 1 by omega) (TR.mono (by omega)) bT FT.kp mT NW bW FW.kp mW
    exact ok_tr (fG := fG) (fS := fS) (dG := dG) FT T Z W Ni Nf WP bP kP mP AC bA kA mA (show 9 ≤ 9 + 3 * n + 1 + 1 by omega) NV bV FV.kp mV
/-- check_node, either way -/
def spCk (K : PySem.W.Frag) (C CN : Addr) : Sp := fun vs H Q E => spChk0 C vs H Q E ∨ spChkX K C CN vs H Q E
theorem ok_ck {f : Addr} {fd : FuncData} (F : Fun K "check_node" "check_node" sChk f fd) (Z : Blt mg) (N : NodeI K C) (mN : mg "Node" = some (.ref C)) (EN : ErrC K mg "BadNode" CN) : FnOk P w K mg base (L2.CX P w) 1 f fd ["thing"] (spCk K C CN) := by
  refine F.okX scChk (fun vs H Q E h => ?_) (fun cdv A outer s H vs Q E hr h => ?_)
  · rcases h with ⟨p, dx, fs, rfl, _⟩ | ⟨v, t, rfl, _⟩ <;> rfl
  refine ⟨_, pss_one (ps_if (pt_not (pt_val (pe_callB call_isi (by rfl) Z.isI (by decide +kernel) (pa_cons (pv 0) (pa_cons (pe_glob (v := .ref C) rfl mN rfl) pa_nil)))))
    (pss_one (ps_raise rfl (takes_of rfl rfl rfl rfl) (pmk_own0 PySem.F.excBase_ValueError EN.x EN.g EN.k (raises_own EN.b EN.t) rfl))) pss_nil), ?_⟩
  rcases h with ⟨p, dx, fs, rfl, hp, q⟩ | ⟨v, t, rfl, ht, hk, q⟩
  · exact ⟨_, rfl, .ref p, .ref C, _, _, _, rfl, .own _, .base (.ins hp N.cl N.ha N.hn N.ht N.hm), N.sf, _, rfl, iteF q⟩
  · exact ⟨_, rfl, v, .ref C, _, _, _, rfl, .own _, ht, hk, _, rfl, iteT q⟩
abbrev sTf : Stmt := topS 23
theorem scTf : FnScope ["node", "handlers", "made"] ["node", "handlers"] (defScope sTf) := ⟨rfl, rfl, rfl, by decide +kernel, rfl, by decide +kernel, by decide +kernel⟩
/-- a root: what handlers hand back is bad unless it is a node -/
theorem scan_root {st wy c : Nat} {kd a n k : Str} {d pl sp : Addr} {ps : List MT} (hw : wy < 19) (e : scan st wy c (clF kd k ps (fieldsP k)) = none) :
    scan st wy c ((MT.md d pl sp k ps).cl kd a n "") = if ansR st wy kd k (c + (clF kd k ps (fieldsP k)).length) = .nd then none else some ((a, n, ("" : Str)), c + (clF kd k ps (fieldsP k)).length) := by
  have eb : badB "" wy = decide (rkOf wy ≠ .nd) := by
    unfold badB
    rw [if_pos (show (decide (wy < 14) || decide (("" : Str) = "")) = true by simp)]
    unfold rkOf
    by_cases z : wy = 18
    · rw [if_pos z, z]
      decide
    · rw [if_neg z, decide_eq_true (show wy < 18 by omega)]
      symm
      refine decide_eq_true ?_
      repeat' split
      all_goals exact fun y => by cases y
  rw [cl_md, scan_right e]
  unfold ansR
  by_cases z : k = kd
  · rw [if_pos z, if_pos z, scan_one, eb]
    unfold rkAt
    by_cases y : st ≤ c + (clF kd k ps (fieldsP k)).length
    · rw [decide_eq_true y, Bool.true_and, if_neg (show ¬ c + (clF kd k ps (fieldsP k)).length + 1 ≤ st by omega)]
      by_cases x : rkOf wy = .nd
      · rw [if_pos x, if_neg (by simp [x])]
      · rw [if_neg x, if_pos (decide_eq_true x)]
    · rw [decide_eq_false y, Bool.false_and, if_pos (show c + (clF kd k ps (fieldsP k)).length + 1 ≤ st by omega)]
      rfl
  · rw [if_neg z, if_neg z]
    rfl
/-- transform(node, handlers), of a model's node -/
def spTfN (C CB : Addr) (Cs : Nat → Addr) (n : Nat) : Sp := fun vs H Q E => ∃ (h : Hn) (c : Nat) (nd : Addr → Option Addr) (d pl sp p : Addr) (k : Str) (ps : List MT), vs = [.ref p, .ref h.hd] ∧ HdAt h H c ∧ MAt Cs nd (mn h H) (.md d pl sp k ps) ∧ So C nd (mn h H) (mn h H) (.md d pl sp k ps) (.ref p) ∧ CfM (.md d pl sp k ps) ∧
  (MT.md d pl sp k ps).hgt < n ∧ c + (MT.md d pl sp k ps).mds.length ≤ 1000000 ∧ Cz CB h H Q E c ((MT.md d pl sp k ps).cl h.kd k "" "") ((MT.md d pl sp k ps).cl h.kd k "" "").length (fun _ _ => True)
def spTf (K : PySem.W.Frag) (C CB CN : Addr) (Cs : Nat → Addr) (n : Nat) : Sp := fun vs H Q E => spTfN C CB Cs n vs H Q E ∨ ∃ (v u : V) (t : Value), vs = [v, u] ∧ TyX K H v t ∧ PySem.W.kitOne K t (.ref C) = some false ∧ E (.ref CN) none H
theorem ok_tf {f fT fK : Addr} {fd dT dK dB : FuncData} (F : Fun K "transform" "transform" sTf f fd) (Z : Blt mg) (W : ValI K C Cs) (Ni : NodeI K C) (Nf : NodeF K C) (mN : mg "Node" = some (.ref C))
    (CK : FnOk P w K mg base (L2.CX P w) 1 fK dK ["thing"] (spCk K C CN)) (bK : Binds K dK ["thing"] []) (kK : PySem.W.keepIn K (.ref fK) = true) (mK : mg "check_node" = some (.ref fK))
    (B : BadC K mg CT CB CN fB) (BC : FnOk P w K mg base CX0 1 fB dB ["self", "kind", "name"] (spBc CB)) (bB : Binds K dB ["self", "kind", "name"] [])
    {n k : Nat} (hk : 2 ≤ k) (TR : FnOk P w K mg base (L2.CX P w) k fT dT ["node", "handlers"] (spTr K C CB Cs n)) (bT : Binds K dT ["node", "handlers"] []) (kT : PySem.W.keepIn K (.ref fT) = true) (mT : mg "_transformed" = some (.ref fT)) :
    FnOk P w K mg base (L2.CX P w) (k + 1) f fd ["node", "handlers"] (spTf K C CB CN Cs n) := by
  refine F.okX scTf (fun vs H Q E h => ?_) (fun cdv A outer s H vs Q E hr h => ?_)
  · rcases h with ⟨_, _, _, _, _, _, _, _, _, rfl, _⟩ | ⟨_, _, _, rfl, _⟩ <;> rfl
  have hr2 := hr.mono hk
  have hr1 := hr.mono (show 1 ≤ k by omega)
  refine ⟨_, (pss_cons (ps_expr (pe_callS CK hr1 rfl mK kK bK (fun σ => passAt (takes_of rfl rfl rfl rfl) σ) (pa_cons (pv 0) pa_nil)))
    (pss_cons (ps_set (i := 2) scTf.nd rfl (.inl rfl) (pe_callS TR hr rfl mT kT bT (fun σ => passAt (takes_of rfl rfl rfl rfl) σ) (pa_cons (pv 0) (pa_cons (pv 1) pa_nil))))
    (C8.pss_cut (ps_if (pt_not (pt_val (pe_callB call_isi (by rfl) Z.isI (by decide +kernel) (pa_cons (pv 2) (pa_cons (pe_glob (v := .ref C) rfl mN rfl) pa_nil))))) (pss_one (ps_raise rfl (takes_of rfl rfl rfl rfl) (pmk_oex B.oex B.ini B.tyI BC hr2 bB .nil pass0 rfl B.g (pa_cons (pe_fld (pv 0) rfl) (pa_cons pe_str pa_nil))))) pss_nil)
    (pss_one (ps_ret (pv 2)))))), ?_⟩
  rcases h with ⟨h, c, nd, d, pl, sp, p, kk, ps, rfl, hh, hm, hso, hcf, hgt, hlen, q⟩ | ⟨v, u, t, rfl, ht, hkt, q⟩
  rotate_left
  · exact ⟨_, rfl, .inr ⟨v, t, rfl, ht, hkt, q⟩⟩
  obtain ⟨dx, dn, mm, hp⟩ : ∃ dx dn mm, H p = some (.ins C dx (nodeFs kk mm dn)) := by
    cases hso with
    | md _ a _ _ _ _ _ => exact ⟨_, _, _, res_out _ _ a⟩
  refine ⟨_, rfl, .inl ⟨p, dx, _, rfl, hp, ?_⟩⟩
  refine ⟨_, rfl, _, rfl, h, c, nd, d, pl, sp, p, kk, ps, rfl, hh, hm, hso, hcf, hgt, hlen, Cz.of (fun z e => ?_) (fun e => ?_)⟩
  · exact q.raise (by rw [cl_md]; exact scan_left e)
  intro H4 v4 k4 m4 rv
  have scl := scan_root (a := kk) (n := "") (d := d) (pl := pl) (sp := sp) hh.w19 e
  have kd' : ansR h.st h.wy h.kd kk (c + (clF h.kd kk ps (fieldsP kk)).length) ≠ .nd → kk = h.kd := fun z => by
    rcases Decidable.em (kk = h.kd) with y | y
    · exact y
    · unfold ansR at z
      rw [if_neg y] at z
      exact absurd rfl z
  generalize ansR h.st h.wy h.kd kk (c + (clF h.kd kk ps (fieldsP kk)).length) = r at rv scl kd' ⊢
  obtain ⟨t, t1, t2, _⟩ := res_ty W Ni rv
  refine ⟨fun σ H' => σ = [some (.ref p), some (.ref h.hd), some v4] ∧ H4 = H' ∧ r = .nd, ?_, ?_⟩
  · refine ⟨_, rfl, v4, .ref C, _, _, _, rfl, .own _, t1, t2, _, rfl, ?_⟩
    by_cases e : r = .nd
    · rw [decide_eq_true e]
      exact iteF ⟨rfl, rfl, e⟩
    · rw [decide_eq_false e]
      refine iteT ?_
      rw [if_neg e] at scl
      have rz := q.raise scl
      have hp4 := k4 _ _ (mt_ne hh hp fun _ z => by cases z) hp
      refine ⟨_, rfl, p, C, dx, _, .str kk, rfl, hp4, Nf.cl, Nf.n1, rfl, by show 2 ≤ 1000; decide, bad_fin fun H6 d6 s6 _ e6 => rz H6 d6 (k4.tr (KpX.same s6)) ?_ e6⟩
      have z := s6 _ _ m4
      rw [if_pos (kd' e)] at z
      exact z
  rintro σ H' ⟨rfl, rfl, e⟩
  rw [if_pos e] at scl
  refine ⟨_, rfl, q.value scl H4 v4 k4 ?_ trivial⟩
  rw [cl_one]
  exact m4
end
end Q8

namespace Q8
open PySem PySem.Spec PyProof.Rows L2 StX TL RZ LamX NdefX
/-! ### _law_ended -/
theorem pss_cond {X : Cx} {sts : List Stmt} {t : TS} {c : Prop} (h : c → PSs X sts t) : PSs X sts (fun D σ H => c ∧ t D σ H) := ⟨fun pins s σ H D I q => (h q.1).run pins s σ H D I q.2⟩
/-- isinstance(e, c), e with a dict -/
def rIsD (K : PySem.W.Frag) (D a d : Addr) : List V → Hp → VK → Prop := fun xs H Q => ∃ (c : V) (cv : Value) (b : Bool) (fs : List (Str × V)), xs = [.ref a, c] ∧ (∀ u, RelV c u → u = cv) ∧ PySem.W.kitOne K (.ref D) cv = some b ∧ H d = some (.xd fs) ∧ Q (.bl b) H
theorem call_isD {X : Cx} {a D d : Addr} {oe : Obj} {pn : List (Addr × Obj)} (C : ExcC X.K D) (sm : (PySem.W.clsIn X.K D).isSome = true) (hz : Zc (.ref D) (some d) oe) (hf : ∃ vs, oe.data = .fields vs) : CallR (X.suite a ((a, oe) :: pn)) (.builtin "isinstance") (rIsD X.K D a d) := by
  intro pins s σ H xs us Q I r h
  obtain ⟨c, cv, b, fs, rfl, hcv, e, hd, q⟩ := h
  cases r with
  | cons rx rr =>
  cases rr with
  | cons rt rr =>
  cases rr
  cases rx
  have ec := hcv _ rt
  subst ec
  obtain ⟨ha, _⟩ := I.pin (a, oe) (List.mem_append_left _ List.mem_cons_self)
  obtain ⟨vs, hv⟩ := hf
  have hx : ObjOk X.prog X.w H s.heap d (.xd fs) := I.hok d _ hd
  obtain ⟨mA, hns, _⟩ := hx
  obtain ⟨od, ho, _⟩ := lookIn_ns hns
  have J : PySem.W.InstAt s.heap a oe D (some od) := ⟨ha, hz.1, by unfold PySem.W.notCls; rw [hv] <;> rfl, by rw [hz.2]; exact ho⟩
  exact PySem.W.kia_one (PySem.W.kitx_exc (ox := oe) (od := some od) sm C.hg C.hk C.hs C.ha C.hn C.ht C.hm) I.kIn J e (fun z => nomatch z) fun tk => ⟨.bl b, H, I.kept (t' := tk) fun _ _ z => z, rfl, q⟩
abbrev sEn : Stmt := topS 51
theorem scEn : FnScope ["_law_made", "_law_handlers", "e"] ["_law_made", "_law_handlers"] (defScope sEn) := ⟨rfl, rfl, rfl, by decide +kernel, rfl, by decide +kernel, by decide +kernel⟩
/-- which clause takes which error -/
structure EnF (K : PySem.W.Frag) (CT CB CN : Addr) : Prop where
  bn : PySem.W.exmOne K (.ref CB) (.ref CN) = some false
  bt : PySem.W.exmOne K (.ref CB) (.ref CT) = some true
  nn : PySem.W.exmOne K (.ref CN) (.ref CN) = some true
  kb : PySem.W.kitOne K (.ref CB) (.ref CB) = some true
def spEn (K : PySem.W.Frag) (C : Addr) (Cs : Nat → Addr) (n : Nat) : Sp := fun vs H Q _ => (∃ (h : Hn) (c : Nat) (nd : Addr → Option Addr) (d pl sp p : Addr) (k : Str) (ps : List MT), vs = [.ref p, .ref h.hd] ∧ HdAt h H c ∧ MAt Cs nd (mn h H) (.md d pl sp k ps) ∧ So C nd (mn h H) (mn h H) (.md d pl sp k ps) (.ref p) ∧ CfM (.md d pl sp k ps) ∧
    (MT.md d pl sp k ps).hgt < n ∧ c + (MT.md d pl sp k ps).mds.length ≤ 1000000 ∧
    (∀ z, scan h.st h.wy c ((MT.md d pl sp k ps).cl h.kd k "" "") = some z → ∀ (H' : Hp) (T : Addr), KpX [h.mt] H H' → H' h.mt = some (.lst (List.replicate (z.2 + 1) (.str h.kd))) → H' T = some (.tup [.str z.1.1, .str z.1.2.1]) → Q (.ref T) H') ∧
    (scan h.st h.wy c ((MT.md d pl sp k ps).cl h.kd k "" "") = none → ∀ H' : Hp, KpX [h.mt] H H' → H' h.mt = some (.lst (List.replicate (c + ((MT.md d pl sp k ps).cl h.kd k "" "").length) (.str h.kd))) → Q (.str "done") H')) ∨
  ∃ (v u : V) (t : Value), vs = [v, u] ∧ TyX K H v t ∧ PySem.W.kitOne K t (.ref C) = some false ∧ Q (.str "node") H
section
variable {P : Program} {w : World} {K : PySem.W.Frag} {mg : Str → Option Value} {base : Heap} {C CT CB CN fB : Addr} {Cs : Nat → Addr}
theorem ok_en {f fT : Addr} {fd dT : FuncData} (F : Fun K "_law_ended" "_law_ended" sEn f fd) (Z : Blt mg) (B : BadC K mg CT CB CN fB) (G : EnF K CT CB CN)
    {n k : Nat} (TF : FnOk P w K mg base (L2.CX P w) k fT dT ["node", "handlers"] (spTf K C CB CN Cs n)) (bT : Binds K dT ["node", "handlers"] []) (kT : PySem.W.keepIn K (.ref fT) = true) (mT : mg "transform" = some (.ref fT)) :
    FnOk P w K mg base CX0 (k + 1) f fd ["_law_made", "_law_handlers"] (spEn K C Cs n) := by
  refine F.ok scEn (fun vs H Q E h => ?_) (fun cdv A outer s H vs Q E hr h => ?_)
  · rcases h with ⟨_, _, _, _, _, _, _, _, _, rfl, _⟩ | ⟨_, _, _, rfl, _⟩ <;> rfl
  have isD : ∀ (Y : Cx) (a d : Addr) (oe : Obj) (pn : List (Addr × Obj)), Y.K = K → Zc (.ref CB) (some d) oe → (∃ vs, oe.data = .fields vs) → CallR (Y.suite a ((a, oe) :: pn)) (.builtin "isinstance") (rIsD K CB a d) := fun Y a d oe pn e hz hf => by
    subst e
    exact call_isD B.ex B.sm hz hf
  refine ⟨_, (pss_cons (QTry.ps_try_mx (i := 2) rfl rfl scEn.nd rfl rfl L2.takes0 (fun W pn xe tk _ => pss_one (ps_expr (pe_callS TF hr rfl mT kT bT (fun σ => passAt tk σ) (pa_cons (pv 0) (pa_cons (pv 1) pa_nil)))))
      (QTry.HdsMx.bare ⟨rfl, by decide, .inl B.gN⟩ (fun a oe cls d pn hz hf => pss_one (ps_ret pe_str))
      (QTry.HdsMx.cons ⟨rfl, by decide, .inl B.gT⟩ (fun a oe cls d pn hz hf => pss_cond (c := cls = .ref CB ∧ d = some (d.getD 0)) fun ⟨e1, e2⟩ => pss_one (ps_ret (pe_ifExp (pt_val (pe_callB (isD _ a (d.getD 0) oe pn rfl (by rw [e1, e2] at hz; exact hz) hf) (by rfl) Z.isI (by decide +kernel) (pa_cons (pv 2) (pa_cons (pe_glob (v := .ref CB) rfl B.g rfl) pa_nil))))
        (pe_tup (pa_cons (pe_xf B.xf B.n0 hz hf (pv 2)) (pa_cons (pe_xf B.xf B.n1 hz hf (pv 2)) pa_nil))) pe_str))) .nil)))
    (pss_one (ps_ret pe_str))), ?_⟩
  rcases h with ⟨h, c, nd, d, pl, sp, p, kk, ps, rfl, hh, hm, hso, hcf, hgt, hlen, q1, q2⟩ | ⟨v, u, t, rfl, ht, hkt, q⟩
  rotate_left
  · refine ⟨_, rfl, _, rfl, .inr ⟨v, u, t, rfl, ht, hkt, ?_⟩⟩
    exact ⟨true, G.nn, fun _ a na => q, fun z => by cases z⟩
  refine ⟨_, rfl, _, rfl, .inl ⟨h, c, nd, d, pl, sp, p, kk, ps, rfl, hh, hm, hso, hcf, hgt, hlen, Cz.of (fun z e => ?_) (fun e => ?_)⟩⟩
  · intro H' dd k1 m1 e1
    refine ⟨false, G.bn, fun z => (by cases z), fun _ => ⟨true, G.bt, fun _ a na => ⟨⟨rfl, rfl⟩, ?_⟩, fun z => (by cases z)⟩⟩
    refine ⟨_, rfl, .ref CB, .ref CB, _, _, rfl, fun _ r => r, G.kb, e1, _, rfl, iteT ?_⟩
    refine ⟨_, rfl, rfl, rfl, dd, _, _, rfl, e1, rfl, _, rfl, rfl, rfl, dd, _, _, rfl, e1, rfl, by show 2 ≤ sizeLine; decide, fun T nT => ?_⟩
    exact q1 z e _ T (k1.tr (KpX.same (same_new nT))) (same_new nT _ _ m1) upd_same
  · intro H' v k1 m1 _
    exact q2 e H' k1 m1
end
end Q8

namespace Q8
open PySem PySem.Spec PyProof.Rows L2 StX TL RZ LamX NdefX
/-! ### what the law needs -/
abbrev sLaw : Stmt := topS 52
abbrev nLaw : List Str := ["_law_script", "_law_stream", "_law_turn", "_law_group_here", "_law_model_here", "_law_made", "_law_kind", "_law_way", "_law_start", "_law_met", "_law_calls_here", "_law_bad", "_law_due", "_law_odd", "_law_k", "_law_one"]
theorem scLaw : FnScope nLaw ["_law_script"] (defScope sLaw) := ⟨rfl, rfl, rfl, by decide +kernel, rfl, by decide +kernel, by decide +kernel⟩
def spMoX (Cs : Nat → Addr) (n : Nat) : Sp := fun vs H Q E => ∃ nd, spMo Cs nd n vs H Q E
theorem fldK {X : Cx} {K : PySem.W.Frag} (e : X.K = K) {a : Expr} {f : Str} {pos : Pos} {ta : TE} (he : PE X a ta) (hb : attributeBase a f X.env (eval a X.env) = eval a X.env) : PE X (.Attribute a f pos) (tFld K ta f) := e ▸ pe_fld he hb
structure LawD (P : Program) (w : World) (K : PySem.W.Frag) (mg : Str → Option Value) (base : Heap) (C : Addr) (Cs fI : Nat → Addr) (fdI : Nat → FuncData) (Pt : Addr) (fD fM fN fO fP fB fA fY fE fS : Addr) (dD dM dN dO dP dB dA dY dE dS : FuncData) : Prop where
  D : FnOk P w K mg base CX0 1 fD dD ["_law_stream", "_law_many"] spDraw
  bD : Binds K dD ["_law_stream", "_law_many"] []
  kD : PySem.W.keepIn K (.ref fD) = true
  mD : mg "_law_draw" = some (.ref fD)
  M : FnOk P w K mg base CX0 35 fM dM pPr (spWhole Cs)
  bM : Binds K dM pPr []
  kM : PySem.W.keepIn K (.ref fM) = true
  mM : mg "_law_model" = some (.ref fM)
  N : FnOk P w K mg base CX0 106 fN dN ["_law_model_here"] (spNd K C Cs 33)
  bN : Binds K dN ["_law_model_here"] []
  kN : PySem.W.keepIn K (.ref fN) = true
  mN : mg "_law_node" = some (.ref fN)
  O : FnOk P w K mg base CX0 36 fO dO ["_law_model_here"] (spMoX Cs 34)
  bO : Binds K dO ["_law_model_here"] []
  kO : PySem.W.keepIn K (.ref fO) = true
  mO : mg "_law_models" = some (.ref fO)
  P_ : FnOk P w K mg base CX0 2 fP dP ["_law_stream", "_law_some"] (spPick K)
  bP : Binds K dP ["_law_stream", "_law_some"] []
  kP : PySem.W.keepIn K (.ref fP) = true
  mP : mg "_law_pick" = some (.ref fP)
  B : FnOk P w K mg base CX0 1 fB dB lmFr (spLam Pt lmQ lmP lmB lmS lmFr)
  bB : Binds K dB lmFr []
  kB : PySem.W.keepIn K (.ref fB) = true
  mB : mg "_law_bound" = some (.ref fB)
  A : FnOk P w K mg base CX0 37 fA dA ["_law_model_here", "_law_around", "_law_name", "_law_what", "_law_kind"] (spCa Cs 33)
  bA : Binds K dA ["_law_model_here", "_law_around", "_law_name", "_law_what", "_law_kind"] []
  kA : PySem.W.keepIn K (.ref fA) = true
  mA : mg "_law_calls" = some (.ref fA)
  Y : FnOk P w K mg base CX0 1 fY dY ["_law_what", "_law_way"] spIb
  bY : Binds K dY ["_law_what", "_law_way"] []
  kY : PySem.W.keepIn K (.ref fY) = true
  mY : mg "_law_is_bad" = some (.ref fY)
  E : FnOk P w K mg base CX0 110 fE dE ["_law_made", "_law_handlers"] (spEn K C Cs 33)
  bE : Binds K dE ["_law_made", "_law_handlers"] []
  kE : PySem.W.keepIn K (.ref fE) = true
  mE : mg "_law_ended" = some (.ref fE)
  S : FnOk P w K mg base CX0 100 fS dS ["_law_node_here", "_law_model_here"] (spIs C Cs 32)
  bS : Binds K dS ["_law_node_here", "_law_model_here"] []
  kS : PySem.W.keepIn K (.ref fS) = true
  mS : mg "_law_is_so" = some (.ref fS)
  Mk_ : Mks P w K mg base Cs fI fdI
/-- all models of a model are models -/
theorem msN_at {Cs : Nat → Addr} {nd : Addr → Option Addr} {H : Hp} : ∀ (n : Nat) (m : MT) (l : List MT), MsN n m l → MAt Cs nd H m → ∀ x ∈ l, MAt Cs nd H x ∧ isMd x = true
  | 0, _, _, h, _, _, _ => h.elim
  | n + 1, m, l, h, hm, x, hx => by
    obtain ⟨d, pl, sp, k, ps, ls, rfl, rfl, a⟩ := h
    rcases List.mem_cons.mp hx with rfl | hx
    · exact ⟨hm, rfl⟩
    · have hb : ∀ y ∈ belowM ps, MAt Cs nd H y := by
        cases hm with
        | md _ _ _ _ _ _ _ h8 => exact dict_mem fun y hy => h8.mem y hy
      have go : ∀ {ms ls : List MT}, All2 (MsN n) ms ls → (∀ y ∈ ms, MAt Cs nd H y) → ∀ x ∈ ls, MAt Cs nd H x ∧ isMd x = true := by
        intro ms ls h
        induction h with
        | nil => intro _ x hx; cases hx
        | cons h1 h2 ih =>
          intro hy x hx
          rcases List.mem_append.mp hx with hx | hx
          · exact msN_at n _ _ h1 (hy _ (List.mem_cons_self ..)) x hx
          · exact ih (fun y hy' => hy y (List.mem_cons_of_mem _ hy')) x hx
      exact go a hb x hx
def spLaw (K : PySem.W.Frag) (Pt : Addr) : Sp := fun vs H Q _ => ∃ (a : Addr) (ns : List Int), vs = [.ref a] ∧ SqL K H a (ns.map V.int) ∧ ns.length ≤ 63 ∧ TabS H Pt lmQ ∧ ∀ H', Q (.bl true) H'
theorem tabS_up {H H' : Hp} {Pt : Addr} {q : Str} (t : TabS H Pt q) (k1 : ∀ b ps, H b = some (.tbl ps) → H' b = some (.tbl ps)) (k2 : ∀ b φ, H b = some (.ext φ) → H' b = some (.ext φ)) : TabS H' Pt q := by
  obtain ⟨ps, h1, h2, h3⟩ := t
  refine ⟨ps, k1 _ _ h1, h2, fun pos cv hc => ?_⟩
  obtain ⟨c, e1, e2⟩ := h3 pos cv hc
  exact ⟨c, e1, k2 _ _ e2⟩
section
variable {H H' : Hp} {Pt : Addr} {q : Str} {a c lf : Addr} {S S' : Stm}
theorem TabS.same (t : TabS H Pt q) (s : Same H H') : TabS H' Pt q := tabS_up t (fun b _ e => s _ _ e) fun b _ e => s _ _ e
theorem TabS.kept (t : TabS H Pt q) (hS : StmAt H a c S) (k : Kept a c H H') : TabS H' Pt q := by
  refine tabS_up t (fun b ps e => k _ _ (fun z => ?_) (fun z => ?_) e) (fun b φ e => k _ _ (fun z => ?_) (fun z => ?_) e)
  · rw [z, hS.lst] at e; cases e
  · rw [z, hS.cel] at e; cases e
  · rw [z, hS.lst] at e; cases e
  · rw [z, hS.cel] at e; cases e
theorem TabS.kpX {L : Int} (t : TabS H Pt q) (d : Ds H a c lf S L) (k : KpX [a, c, lf] H H') : TabS H' Pt q := by
  have ne : ∀ {b : Addr} {o : HO}, H b = some o → (∀ xs, o ≠ .lst xs) → b ∉ [a, c, lf] := fun {b o} e n z => by
    simp only [List.mem_cons, List.not_mem_nil, or_false] at z
    rcases z with rfl | rfl | rfl
    · rw [d.st.lst] at e; exact n _ (Option.some.inj e).symm
    · rw [d.st.cel] at e; exact n _ (Option.some.inj e).symm
    · rw [d.lfa] at e; exact n _ (Option.some.inj e).symm
  exact tabS_up t (fun b ps e => k _ _ (ne e fun _ z => by cases z) e) fun b φ e => k _ _ (ne e fun _ z => by cases z) e
end
/-! ### lists of equal things -/
/-- equal flat things: the same object, or the same value -/
inductive EqY : V → V → Prop
  | ref (p : Addr) : EqY (.ref p) (.ref p)
  | non : EqY .non .non
  | str (x : Str) : EqY (.str x) (.str x)
  | int (i : Int) : EqY (.int i) (.int i)
inductive EqYL : List V → List V → Prop
  | nil : EqYL [] []
  | cons {x y : V} {xs ys : List V} : EqY x y → EqYL xs ys → EqYL (x :: xs) (y :: ys)
/-- .. or lists of equal flat things -/
inductive EqZ (H : Hp) : V → V → Prop
  | flat {x y : V} : EqY x y → EqZ H x y
  | lst {a b : Addr} {xs ys : List V} : H a = some (.lst xs) → H b = some (.lst ys) → EqYL xs ys → EqZ H (.ref a) (.ref b)
inductive EqZL (H : Hp) : List V → List V → Prop
  | nil : EqZL H [] []
  | cons {x y : V} {xs ys : List V} : EqZ H x y → EqZL H xs ys → EqZL H (x :: xs) (y :: ys)
theorem eqY_at {A : Around} {s : Shared} {x y : V} {v u : Value} (h : EqY x y) (rx : L2.RelV x v) (ry : L2.RelV y u) : SeqAt.EqAt A s v u true := by
  cases h with
  | ref p =>
    cases (show v = Value.ref p from rx)
    cases (show u = Value.ref p from ry)
    exact SeqAt.EqAt.same _
  | non =>
    cases (show v = Value.none from rx)
    cases (show u = Value.none from ry)
    exact SeqAt.EqAt.same _
  | str x =>
    obtain ⟨t, rfl⟩ := rx
    obtain ⟨t', rfl⟩ := ry
    have z := SeqAt.EqAt.str_str (A := A) (s := s) x t x t'
    rw [beq_self_eq_true] at z
    exact z
  | int i =>
    obtain ⟨t, rfl⟩ := rx
    obtain ⟨t', rfl⟩ := ry
    have z := SeqAt.EqAt.int_int (A := A) (s := s) i t i t'
    rw [beq_self_eq_true] at z
    exact z
theorem eqYL_len : ∀ {xs ys : List V}, EqYL xs ys → xs.length = ys.length
  | _, _, .nil => rfl
  | _, _, .cons _ h => congrArg (· + 1) (eqYL_len h)
theorem eqZL_len {H : Hp} : ∀ {xs ys : List V}, EqZL H xs ys → xs.length = ys.length
  | _, _, .nil => rfl
  | _, _, .cons _ h => congrArg (· + 1) (eqZL_len h)
theorem eqYL_get : ∀ {xs ys : List V}, EqYL xs ys → ∀ {i : Nat} {x y : V}, xs[i]? = some x → ys[i]? = some y → EqY x y
  | _, _, .nil, i, x, y, h, _ => by simp at h
  | _, _, .cons h hs, 0, x, y, e1, e2 => by cases e1; cases e2; exact h
  | _, _, .cons h hs, i + 1, x, y, e1, e2 => eqYL_get hs (i := i) e1 e2
theorem eqZL_get {H : Hp} : ∀ {xs ys : List V}, EqZL H xs ys → ∀ {i : Nat} {x y : V}, xs[i]? = some x → ys[i]? = some y → EqZ H x y
  | _, _, .nil, i, x, y, h, _ => by simp at h
  | _, _, .cons h hs, 0, x, y, e1, e2 => by cases e1; cases e2; exact h
  | _, _, .cons h hs, i + 1, x, y, e1, e2 => eqZL_get hs (i := i) e1 e2
section
variable {X : Cx} {pins : List (Addr × Obj)} {σ : L2.St} {H : Hp} {s : Shared}
theorem vals_at {xs : List V} {its : List Value} (r : Vals xs its) {j : Nat} (h : j < its.toArray.size) : ∃ x, xs[j]? = some x ∧ L2.RelV x its.toArray[j] := by
  have hl := r.length
  have h' : j < its.length := by simpa using h
  have hx : j < xs.length := by omega
  obtain ⟨u, e, ru⟩ := r.get (List.getElem?_eq_getElem hx)
  refine ⟨_, List.getElem?_eq_getElem hx, ?_⟩
  rw [List.getElem?_eq_getElem h'] at e
  cases e
  simpa using ru
theorem all_range (n : Nat) : (List.range n).all (fun _ => true) = true := by
  rw [List.all_eq_true]
  exact fun _ _ => rfl
theorem eqZ_at {A : Around} {x y : V} {v u : Value} (I : Inv X pins σ H s) (hu : A.in1.units < cLine) (h : EqZ H x y) (rx : L2.RelV x v) (ry : L2.RelV y u) : SeqAt.EqAt A.in1 s v u true := by
  cases h with
  | flat h => exact eqY_at h rx ry
  | @lst a b xs ys ha hb hl =>
    cases (show v = Value.ref a from rx)
    cases (show u = Value.ref b from ry)
    by_cases z : a = b
    · subst z
      exact SeqAt.EqAt.same _
    obtain ⟨_, its, k, rr, g⟩ := I.hok a _ ha
    obtain ⟨_, its2, k2, rr2, g2⟩ := I.hok b _ hb
    have len : its.toArray.size = its2.toArray.size := by
      rw [List.size_toArray, List.size_toArray, ← rr.length, ← rr2.length]
      exact eqYL_len hl
    have q := SeqAt.RcAt.lists (A := A.in1) (s := s) (l := a) (b := b) (items := its.toArray) (items2 := its2.toArray) (e := fun _ => true) ⟨_, g, rfl, k, rfl⟩ ⟨_, g2, rfl, k2, rfl⟩ len hu fun j h1 h2 => by
      obtain ⟨x, e1, r1⟩ := vals_at rr h1
      obtain ⟨y, e2, r2⟩ := vals_at rr2 h2
      exact eqY_at (eqYL_get hl e1 e2) r1 r2
    rw [all_range] at q
    exact SeqAt.EqAt.of_refs z q
def rNeL : R2 := fun x y H Q => ∃ (a b : Addr) (xs ys : List V), x = .ref a ∧ y = .ref b ∧ H a = some (.lst xs) ∧ H b = some (.lst ys) ∧ EqZL H xs ys ∧ Q (.bl false) H
/-- list != list, the items equal -/
theorem op_neL {X : Cx} (hu : X.A.units + 64 < cLine) : OpR X (compareOp .NotEq) rNeL := by
  intro pins s σ H x y v u Q I rx ry h
  obtain ⟨a, b, xs, ys, rfl, rfl, ha, hb, hl, q⟩ := h
  cases rx
  cases ry
  obtain ⟨_, its, k, rr, g⟩ := I.hok a _ ha
  obtain ⟨_, its2, k2, rr2, g2⟩ := I.hok b _ hb
  have len : its.toArray.size = its2.toArray.size := by
    rw [List.size_toArray, List.size_toArray, ← rr.length, ← rr2.length]
    exact eqZL_len hl
  have hu1 : X.A.in1.units < cLine := by
    show X.A.units + 1 < _
    omega
  have z := SeqAt.RcNeAt.lists (A := X.A) (s := s) (l := a) (b := b) (items := its.toArray) (items2 := its2.toArray) (e := fun _ => true) ⟨_, g, rfl, k, rfl⟩ ⟨_, g2, rfl, k2, rfl⟩ len (by omega) fun j h1 h2 => by
    obtain ⟨x, e1, r1⟩ := vals_at rr h1
    obtain ⟨y, e2, r2⟩ := vals_at rr2 h2
    exact eqZ_at I hu1 (eqZL_get hl e1 e2) r1 r2
  rw [all_range] at z
  exact z X.prog X.w X.xe _ ⟨.bl false, H, I, rfl, q⟩
end
/-- list != [] -/
def rNeE : R2 := fun x y H Q => ∃ (a b : Addr) (xs : List V), x = .ref a ∧ y = .ref b ∧ H a = some (.lst xs) ∧ H b = some (.lst []) ∧ Q (.bl (!xs.isEmpty)) H
theorem op_neE {X : Cx} (hu : X.A.units + 64 < cLine) : OpR X (compareOp .NotEq) rNeE := by
  intro pins s σ H x y v u Q I rx ry h
  obtain ⟨a, b, xs, rfl, rfl, ha, hb, q⟩ := h
  cases xs with
  | nil => exact op_neD hu pins s σ H _ _ v u Q I rx ry ⟨.list [], .list [], .lst (SqL.of ha) .nil, .lst (SqL.of hb) .nil, rfl, rfl, q⟩
  | cons z r =>
    cases rx
    cases ry
    obtain ⟨_, its, k, rr, g⟩ := I.hok a _ ha
    obtain ⟨_, its2, k2, rr2, g2⟩ := I.hok b _ hb
    refine SeqAt.RcNeAt.lists_lengths (items := its.toArray) (items2 := its2.toArray) ⟨_, g, rfl, k, rfl⟩ ⟨_, g2, rfl, k2, rfl⟩ ?_ (by omega) X.prog X.w X.xe _ ⟨.bl true, H, I, rfl, q⟩
    rw [List.size_toArray, List.size_toArray, ← rr.length, ← rr2.length]
    simp
/-! ### the words of calls -/
def okWd (w : Str) : Prop := w.length ≤ 100 ∧ (w = "" ∨ ∃ c, endC w = some c)
theorem okWd_nil : okWd "" := ⟨by decide, .inl rfl⟩
theorem words_ok {k : Str} (h : (Fld.lookup k).isSome = true) : ∀ fp ∈ fieldsP k, okWd (fp.getD 1 "") := fun fp hfp => by
  obtain ⟨rs, row⟩ := Option.isSome_iff_exists.mp h
  obtain ⟨i, hi, rfl⟩ := List.getElem_of_mem hfp
  have rl := sameRow_len (fields_row row).2
  have z := mark_at row (List.getElem?_eq_getElem hi) (List.getElem?_eq_getElem (show i < rs.length by omega))
  unfold markOk at z
  split at z
  · rename_i nm wh e
    rw [e]
    obtain ⟨_, z⟩ := Bool.and_eq_true_iff.mp z
    obtain ⟨_, z⟩ := Bool.and_eq_true_iff.mp z
    obtain ⟨_, z⟩ := Bool.and_eq_true_iff.mp z
    obtain ⟨_, z⟩ := Bool.and_eq_true_iff.mp z
    obtain ⟨z1, z2⟩ := Bool.and_eq_true_iff.mp z
    exact ⟨of_decide_eq_true z1, .inr (Option.isSome_iff_exists.mp z2)⟩
  · cases z
theorem cl_words {Cs : Nat → Addr} {nd : Addr → Option Addr} {H : Hp} {kd : Str} : ∀ n : Nat, (∀ m : MT, m.hgt < n → MAt Cs nd H m → ∀ a nm w, okWd w → ∀ x ∈ m.cl kd a nm w, okWd x.2.2) ∧
    (∀ ms : List MT, hgtL ms < n → (∀ m ∈ ms, MAt Cs nd H m) → (∀ a nm w, okWd w → ∀ x ∈ clI kd ms a nm w, okWd x.2.2) ∧ ∀ k fs, (∀ fp ∈ fs, okWd (fp.getD 1 "")) → ∀ x ∈ clF kd k ms fs, okWd x.2.2)
  | 0 => ⟨fun m h => by omega, fun ms h => by omega⟩
  | n + 1 => by
    obtain ⟨h1, h2⟩ := cl_words (Cs := Cs) (nd := nd) (H := H) (kd := kd) n
    have one : ∀ m : MT, m.hgt < n + 1 → MAt Cs nd H m → ∀ a nm w, okWd w → ∀ x ∈ m.cl kd a nm w, okWd x.2.2 := fun m hm at_ a nm w ok x hx => by
      cases at_ with
      | @md d pl sp k ps sx _ _ _ _ _ h6 _ h8 =>
        rw [hgt_md] at hm
        rw [cl_md] at hx
        rcases List.mem_append.mp hx with hx | hx
        · exact (h2 ps (by omega) (fun m hm => h8.mem m hm)).2 k (fieldsP k) (words_ok h6) x hx
        · split at hx
          · rw [List.mem_singleton.mp hx]; exact ok
          · cases hx
      | at_ _ => rw [cl_at] at hx; cases hx
      | @ls l ms _ _ g =>
        rw [hgt_ls] at hm
        rw [cl_ls] at hx
        exact (h2 ms (by omega) (fun m hm => g.mem m hm)).1 a nm w ok x hx
      | tu _ _ _ => rw [cl_tu] at hx; cases hx
    refine ⟨one, fun ms => ?_⟩
    induction ms with
    | nil => exact fun _ _ => ⟨fun a nm w _ x hx => by (rw [clI_nil] at hx; cases hx), fun k fs _ x hx => by (rw [clF_nil] at hx; cases hx)⟩
    | cons m r ih =>
      intro hm at_
      rw [hgtL_cons] at hm
      have z := ih (by omega) fun x hx => at_ x (List.mem_cons_of_mem _ hx)
      have y := one m (by omega) (at_ m (List.mem_cons_self ..))
      refine ⟨fun a nm w ok x hx => ?_, fun k fs ok x hx => ?_⟩
      · rw [clI_cons] at hx
        rcases List.mem_append.mp hx with hx | hx
        · split at hx
          · exact y a nm w ok x hx
          · cases hx
        · exact z.1 a nm w ok x hx
      · cases fs with
        | nil => rw [clF_nil2] at hx; cases hx
        | cons fp fs =>
          rw [clF_cons] at hx
          rcases List.mem_append.mp hx with hx | hx
          · exact y k _ _ (ok fp (List.mem_cons_self ..)) x hx
          · exact z.2 k fs (fun f hf => ok f (List.mem_cons_of_mem _ hf)) x hx
/-! ### the first bad one by its place -/
theorem scan_none {st wy : Nat} : ∀ {cs : List Ctx3} {c : Nat}, (∀ (j : Nat) x, cs[j]? = some x → st ≤ c + j → badB x.2.2 wy = false) → scan st wy c cs = none
  | [], _, _ => by rw [scan]
  | x :: r, c, h => by
    rw [scan, if_neg, scan_none fun j y e z => h (j + 1) y e (by omega)]
    intro z
    obtain ⟨z1, z2⟩ := Bool.and_eq_true_iff.mp z
    rw [h 0 x rfl (of_decide_eq_true z1)] at z2
    cases z2
theorem scan_some {st wy : Nat} : ∀ {cs : List Ctx3} {c b : Nat} {x : Ctx3}, cs[b]? = some x → st ≤ c + b → badB x.2.2 wy = true → (∀ (j : Nat) y, j < b → cs[j]? = some y → st ≤ c + j → badB y.2.2 wy = false) → scan st wy c cs = some (x, c + b)
  | [], _, b, _, h, _, _, _ => by simp at h
  | y :: r, c, 0, x, h, h1, h2, _ => by
    cases h
    rw [scan, if_pos (by rw [h2, Bool.and_true]; exact decide_eq_true h1)]
    rfl
  | y :: r, c, b + 1, x, h, h1, h2, h3 => by
    rw [scan, if_neg, scan_some (b := b) h (by omega) h2 fun j u hj e z => h3 (j + 1) u (by omega) e (by omega)]
    · rw [Nat.add_right_comm, Nat.add_assoc]
    intro z
    obtain ⟨z1, z2⟩ := Bool.and_eq_true_iff.mp z
    rw [h3 0 y (Nat.zero_lt_succ _) rfl (of_decide_eq_true z1)] at z2
    cases z2
/-! ### the fixed part of the heap -/
mutual
/-- the spots may be looked up where the lists stand, too -/
theorem So.fwL {C : Addr} {nd : Addr → Option Addr} {S S' R : Hp} (s : ∀ b xs, S b = some (.lst xs) → S' b = some (.lst xs)) : ∀ {m : MT} {v : V}, So C nd S R m v → So C nd S' R m v
  | _, _, .at_ => .at_
  | _, _, .ls h hs => .ls h (hs.fwL s)
  | _, _, .tu h hs => .tu h (hs.fwL s)
  | _, _, .md h1 h2 h3 h4 h5 h6 hs => .md h1 h2 h3 h4 h5 (s _ _ h6) (hs.fwL s)
theorem SoL.fwL {C : Addr} {nd : Addr → Option Addr} {S S' R : Hp} (s : ∀ b xs, S b = some (.lst xs) → S' b = some (.lst xs)) : ∀ {ms : List MT} {vs : List V}, SoL C nd S R ms vs → SoL C nd S' R ms vs
  | _, _, .nil => .nil
  | _, _, .cons h hs => .cons (h.fwL s) (hs.fwL s)
end
/-- nodes are made: the models' dicts change alone, outside of X -/
theorem mv_resX {ex : List Addr} {nd nd' : Addr → Option Addr} {H H' : Hp} {X : Addr → Prop} (A : Mv ex nd nd' H H') (hx : ∀ d ∈ ex, ¬ X d) : Mv ex nd nd' (res X H) (res X H') := by
  refine ⟨fun b o n e => ?_, A.out, fun d hd k pl sp e => ?_, fun d hd => ?_⟩
  · obtain ⟨n2, e⟩ := res_at e
    exact res_in n2 (A.kp b o n e)
  · obtain ⟨n2, e⟩ := res_at e
    exact res_in n2 (A.in_ d hd k pl sp e)
  · obtain ⟨kvs, e⟩ := A.dk d hd
    exact ⟨kvs, res_in (hx d hd) e⟩
end Q8

namespace Q8
open PySem PySem.Spec PyProof.Rows L2 StX TL RZ LamX NdefX
/-! ### the law -/
def groupsL : List Str := ["Module", "E", "S", "Call", "Dict", "Try"]
theorem groups_hm : ∀ g ∈ groupsL, (HMT.lookup g).isSome = true := by decide +kernel
theorem ixlL {K : PySem.W.Frag} (X : Cx) (e : X.K = K) : IxR X (rIxL K) := e ▸ ix_list
/-- tuple != tuple, the items equal; or "done" != "done" -/
def rNeU : R2 := fun x y H Q => (∃ (a b : Addr) (xs ys : List V), x = .ref a ∧ y = .ref b ∧ H a = some (.tup xs) ∧ H b = some (.tup ys) ∧ EqYL xs ys ∧ Q (.bl false) H) ∨ (x = .str "done" ∧ y = .str "done" ∧ Q (.bl false) H)
theorem op_neU {X : Cx} (hu : X.A.units + 64 < cLine) : OpR X (compareOp .NotEq) rNeU := by
  intro pins s σ H x y v u Q I rx ry h
  rcases h with ⟨a, b, xs, ys, rfl, rfl, ha, hb, hl, q⟩ | ⟨rfl, rfl, q⟩
  · cases rx
    cases ry
    obtain ⟨_, its, rr, g⟩ := I.hok a _ ha
    obtain ⟨_, its2, rr2, g2⟩ := I.hok b _ hb
    have len : its.toArray.size = its2.toArray.size := by
      rw [List.size_toArray, List.size_toArray, ← rr.length, ← rr2.length]
      exact eqYL_len hl
    have z := SeqAt.RcNeAt.tuples (A := X.A) (s := s) (l := a) (b := b) (items := its.toArray) (items2 := its2.toArray) (e := fun _ => true) g g2 (by omega) fun j h1 h2 => by
      obtain ⟨x, e1, r1⟩ := vals_at rr h1
      obtain ⟨y, e2, r2⟩ := vals_at rr2 h2
      exact eqY_at (eqYL_get hl e1 e2) r1 r2
    rw [all_range, len, beq_self_eq_true] at z
    exact z X.prog X.w X.xe _ ⟨.bl false, H, I, rfl, q⟩
  · exact op_neD hu pins s σ H _ _ v u Q I rx ry ⟨.str "done", .str "done", .str _, .str _, by decide +kernel, by decide +kernel, by
      rw [show PyData.eqv (.str "done") (.str "done") = true from by decide +kernel]
      exact q⟩
theorem eqZL_rep {H : Hp} (x : Str) : ∀ n : Nat, EqZL H (List.replicate n (.str x)) (List.replicate n (.str x))
  | 0 => .nil
  | n + 1 => .cons (.flat (.str x)) (eqZL_rep x n)
theorem ixtT {K : PySem.W.Frag} (X : Cx) (e : X.K = K) : IxR X (rIxT K) := e ▸ ix_tup
section
variable {P : Program} {w : World} {K : PySem.W.Frag} {mg : Str → Option Value} {base : Heap} {C : Addr} {Cs fI : Nat → Addr} {fdI : Nat → FuncData} {Pt fD fM fN fO fP fB fA fY fE fS : Addr} {dD dM dN dO dP dB dA dY dE dS : FuncData}
theorem ok_law {f : Addr} {fd : FuncData} (F : Fun K "law" "law" sLaw f fd) (Z : Blt mg) (W : ValI K C Cs) (Ni : NodeI K C) (L : LawD P w K mg base C Cs fI fdI Pt fD fM fN fO fP fB fA fY fE fS dD dM dN dO dP dB dA dY dE dS) : FnOk P w K mg base CX0 129 f fd ["_law_script"] (spLaw K Pt) := by
  refine F.ok scLaw (fun vs H Q E h => ?_) (fun cdv A outer s H vs Q E hr h => ?_)
  · obtain ⟨a, ns, rfl, _⟩ := h
    rfl
  obtain ⟨sc, ns, rfl, hsc, h63, tab, q⟩ := h
  have hr1 := hr.mono (show 1 ≤ 128 by omega)
  have hr2 := hr.mono (show 2 ≤ 128 by omega)
  have hrM := hr.mono (show 35 ≤ 128 by omega)
  have hrO := hr.mono (show 36 ≤ 128 by omega)
  have hrA := hr.mono (show 37 ≤ 128 by omega)
  have hrS := hr.mono (show 100 ≤ 128 by omega)
  have hrN := hr.mono (show 106 ≤ 128 by omega)
  have hrE := hr.mono (show 110 ≤ 128 by omega)
  refine ⟨_, (pss_cons (ps_set (i := 1) scLaw.nd rfl (.inl rfl) (pe_lst (pa_cons (pe_callTy call_list_of (by rfl) Z.ls (by decide +kernel) (pa_cons (pv 0) pa_nil)) (pa_cons pe_int (pa_cons pe_int (pa_cons pe_int pa_nil))))))
    (pss_cons (ps_for PassesOwn.never rfl (pi_range1 (by rfl) Z.rg (pa_cons pe_int pa_nil)) (pg_name (i := 2) scLaw.nd rfl (.inl rfl)) (C8.pss_cut (ps_set (i := 3) scLaw.nd rfl (.inl rfl) (pe_ix ix_list (pe_lst (pa_cons pe_str (pa_cons pe_str (pa_cons pe_str (pa_cons pe_str (pa_cons pe_str (pa_cons pe_str pa_nil))))))) (pe_call L.D hr1 rfl L.mD L.kD L.bD .nil pass0 (pa_cons (pv 1) (pa_cons pe_int pa_nil))) (fun _ _ => rfl)))
    (C8.pss_cut (ps_set (i := 4) scLaw.nd rfl (.inl rfl) (pe_call L.M hrM rfl L.mM L.kM L.bM .nil pass0 (pa_cons (pv 1) (pa_cons (pv 3) (pa_cons (pe_lst (pa_cons (pe_op op_add pe_int (pe_call L.D hr1 rfl L.mD L.kD L.bD .nil pass0 (pa_cons (pv 1) (pa_cons pe_int pa_nil)))) pa_nil)) (pa_cons pe_int pa_nil))))))
    (C8.pss_cut (ps_set (i := 5) scLaw.nd rfl (.inl rfl) (pe_call L.N hrN rfl L.mN L.kN L.bN .nil pass0 (pa_cons (pv 4) pa_nil)))
    (C8.pss_cut (ps_set (i := 6) scLaw.nd rfl (.inl rfl) (pe_call L.P_ hr2 rfl L.mP L.kP L.bP .nil pass0 (pa_cons (pv 1) (pa_cons (pe_lc (own := [("_law_one", 15)]) (g := gName 15) (tt := tYes) rfl scLaw.nd (pi_list (pe_call L.O hrO rfl L.mO L.kO L.bO .nil pass0 (pa_cons (pv 4) pa_nil))) (blkOk_by (own := [("_law_one", 15)]) (N := nLaw) (sc := (defScope sLaw)) (by decide +kernel)) (fun _ _ _ _ _ => (pg_name (i := 15) scLaw.nd rfl (.inl rfl))) (fun _ _ _ _ _ => pts_nil) (fun _ _ _ _ _ => (pe_dget (hu_of hr) (pv 15) pe_str (fun _ _ => rfl)))) pa_nil))))
    (C8.pss_cut (ps_asg (pe_tup (pa_cons (pe_call L.D hr1 rfl L.mD L.kD L.bD .nil pass0 (pa_cons (pv 1) (pa_cons pe_int pa_nil))) (pa_cons (pe_call L.D hr1 rfl L.mD L.kD L.bD .nil pass0 (pa_cons (pv 1) (pa_cons pe_int pa_nil))) (pa_cons (pe_lst pa_nil) pa_nil)))) (pg_tup (by rfl) (pgs_cons (pg_name (i := 7) scLaw.nd rfl (.inr rfl)) (pgs_cons (pg_name (i := 8) scLaw.nd rfl (.inl rfl)) (pgs_cons (pg_name (i := 9) scLaw.nd rfl (.inl rfl)) pgs_nil)))))
    (C8.pss_cut (ps_set (i := 10) scLaw.nd rfl (.inr rfl) (pe_call L.A hrA rfl L.mA L.kA L.bA .nil pass0 (pa_cons (pv 4) (pa_cons (pe_dget (hu_of hr) (pv 4) pe_str (fun _ _ => rfl)) (pa_cons pe_str (pa_cons pe_str (pa_cons (pv 6) pa_nil)))))))
    (C8.pss_cut (ps_setLc (i := 11) (own := [("_law_k", 14)]) (g := gName 14) (tt := tB (tCall spIb [] E0 (tCons (tOp (rIxT K) (tOp (rIxL K) (tVar 10) (tVar 14)) (tC (.int 2))) (tCons (tVar 7) tNil)))) rfl scLaw.nd rfl rfl (sw_true rfl rfl rfl (by decide +kernel)) (pi_range2 (by rfl) Z.rg (pa_cons (pv 8) (pa_cons (pe_callB call_len_seq rfl Z.ln PySem.boot_len (pa_cons (pv 10) pa_nil)) pa_nil))) (blkOk_by (own := [("_law_k", 14)]) (N := nLaw) (sc := (defScope sLaw)) (by decide +kernel)) (fun _ _ _ _ _ => (pg_name (i := 14) scLaw.nd rfl (.inl rfl))) (fun _ _ _ _ _ => pts_one (pt_val (pe_call L.Y hr1 rfl L.mY L.kY L.bY .nil pass0 (pa_cons (pe_ix (ixtT _ rfl) (pe_ix (ixlL _ rfl) (pv 10) (pv 14) (fun _ _ => rfl)) pe_int (fun _ _ => rfl)) (pa_cons (pv 7) pa_nil))))) (fun _ _ _ _ _ => (pv 14)))
    (C8.pss_cut (ps_set (i := 12) scLaw.nd rfl (.inl rfl) (pe_ifExp (pt_cmpR (op_neE hr.units) (pv 11) (pe_lst pa_nil) (nomark _)) (pe_slice sl_tup (pe_ix ix_list (pv 10) (pe_ix ix_list (pv 11) pe_int (fun _ _ => rfl)) (fun _ _ => rfl)) po_none (po_some pe_int)) pe_str))
    (C8.pss_cut (ps_if (PW.pt (pw_or (pt_cmpR (op_neU hr.units) (pe_call L.E hrE rfl L.mE L.kE L.bE .nil pass0 (pa_cons (pv 5) (pa_cons (pe_disp (pps_cons (pv 6) (pe_call L.B hr1 rfl L.mB L.kB L.bB .nil pass0 (pa_cons (pv 7) (pa_cons (pv 8) (pa_cons (pv 9) pa_nil)))) pps_nil) (by rfl) (by rfl) (fun z => by cases z) (by decide)) pa_nil))) (pv 12) (nomark _)) (pw_or1 (pt_not (pt_val (pe_call L.S hrS rfl L.mS L.kS L.bS .nil pass0 (pa_cons (pv 5) (pa_cons (pv 4) pa_nil)))))))) (pss_one (ps_ret pe_bl)) pss_nil)
    (C8.pss_cut (ps_if (pt_cmpR (op_neL hr.units) (pv 9) (pe_op op_rep (pe_lst (pa_cons (pv 6) pa_nil)) (pe_ifExp (pt_cmpR (op_neE hr.units) (pv 11) (pe_lst pa_nil) (nomark _)) (pe_op op_add (pe_ix ix_list (pv 11) pe_int (fun _ _ => rfl)) pe_int) (pe_callB call_len_seq rfl Z.ln PySem.boot_len (pa_cons (pv 10) pa_nil)))) (nomark _)) (pss_one (ps_ret pe_bl)) pss_nil)
    (C8.pss_cut (ps_set (i := 13) scLaw.nd rfl (.inl rfl) (pe_ix ix_list (pe_lst (pa_cons pe_non (pa_cons pe_int (pa_cons pe_str (pa_cons (pe_lst (pa_cons (pv 5) pa_nil)) (pa_cons (pe_makeE L.Mk_.mk0 L.Mk_.i0 L.Mk_.o0 L.Mk_.k0 rfl L.Mk_.g0) (pa_cons pe_dnewK pa_nil))))))) (pe_call L.D hr1 rfl L.mD L.kD L.bD .nil pass0 (pa_cons (pv 1) (pa_cons pe_int pa_nil))) (fun _ _ => rfl)))
    (pss_one (ps_if (pt_cmpR op_ne (pe_call L.E hrE rfl L.mE L.kE L.bE .nil pass0 (pa_cons (pv 13) (pa_cons pe_dnewK pa_nil))) pe_str (nomark _)) (pss_one (ps_ret pe_bl)) pss_nil))))))))))))))
    (pss_one (ps_ret pe_bl)))), ?_⟩
  have zL : (5000 : Nat) ≤ sizeLine := by decide
  refine ⟨_, rfl, sc, _, rfl, .inl hsc, fun c0 nc0 => ⟨by show 4 ≤ sizeLine; decide, fun a0 na0 => ?_⟩⟩
  have ac : a0 ≠ c0 := fun z => by rw [z, upd_same] at na0; cases na0
  have tab0 := TabS.same (TabS.same tab (same_new (o := .lst (ns.map V.int)) nc0)) (same_new (o := .lst [.ref c0, .int 0, .int 0, .int 0]) na0)
  have h0 : StmAt (upd (upd H c0 (.lst (ns.map V.int))) a0 (.lst [.ref c0, .int 0, .int 0, .int 0])) a0 c0 ⟨ns, 0, 0, 0⟩ :=
    ⟨upd_same, by rw [upd_ne ac.symm, upd_same], ac, h63, Int.le_refl 0, Int.le_refl 0, Int.le_refl 0, by show (0 : Int) < 2147483647; decide⟩
  generalize upd (upd H c0 (.lst (ns.map V.int))) a0 (.lst [.ref c0, .int 0, .int 0, .int 0]) = H0 at h0 tab0 ⊢
  refine ⟨6, rfl, by decide, by decide, for_range (lo := 0) (n := 6) (fun i σ H' => ∃ (S : Stm) (x2 x3 x4 x5 x6 x7 x8 x9 x10 x11 x12 x13 x14 x15 : Option V), σ = [some (.ref sc), some (.ref a0), x2, x3, x4, x5, x6, x7, x8, x9, x10, x11, x12, x13, x14, x15] ∧ StmAt H' a0 c0 S ∧ S.cnt ≤ (i : Int) * 40000 ∧ TabS H' Pt lmQ) ?_ ?_ ?_⟩
  · exact ⟨_, none, none, none, none, none, none, none, none, none, none, none, none, none, none, rfl, h0, by show (0 : Int) ≤ (0 : Int) * 40000; omega, tab0⟩
  · rintro i σ H1 hi ⟨S, x2, x3, x4, x5, x6, x7, x8, x9, x10, x11, x12, x13, x14, x15, rfl, hS, hc, tabS⟩
    have hc6 : S.cnt ≤ 200000 := by
      have : (i : Int) ≤ 5 := by omega
      omega
    -- the group
    refine ⟨fun σ H2 => ∃ (g : Str) (S2 : Stm) (x4 x5 x6 x7 x8 x9 x10 x11 x12 x13 x14 x15 : Option V), σ = [some (.ref sc), some (.ref a0), some (.int (0 + (i : Nat))), some (.str g), x4, x5, x6, x7, x8, x9, x10, x11, x12, x13, x14, x15] ∧ StmAt H2 a0 c0 S2 ∧ S2.cnt ≤ S.cnt + 1 ∧ (HMT.lookup g).isSome = true ∧ TabS H2 Pt lmQ, ?_, ?_⟩
    · refine ⟨by show 6 ≤ sizeLine; decide, fun l nl => ?_⟩
      have s2 := same_new (o := .lst [.str "Module", .str "E", .str "S", .str "Call", .str "Dict", .str "Try"]) nl
      have hl : (upd H1 l (.lst [.str "Module", .str "E", .str "S", .str "Call", .str "Dict", .str "Try"])) l = some (.lst (groupsL.map V.str)) := upd_same
      have hS2 := hS.keep s2
      have tab2 := TabS.same tabS s2
      have la := (ne_of_none hS.lst nl).symm
      have lc := (ne_of_none hS.cel nl).symm
      generalize upd H1 l (.lst [.str "Module", .str "E", .str "S", .str "Call", .str "Dict", .str "Try"]) = H2 at hl hS2 tab2 ⊢
      refine ⟨_, rfl, a0, c0, S, 6, rfl, hS2, by omega, by decide, by decide, fun H3 S3 r h3 c3 k3 r0 r1 => ?_⟩
      have hl3 := k3 _ _ la lc hl
      obtain ⟨j, rfl⟩ : ∃ j : Nat, r = (j : Int) := ⟨r.toNat, by omega⟩
      obtain ⟨g, hg⟩ : ∃ g, groupsL[j]? = some g := ⟨_, List.getElem?_eq_getElem (by show j < 6; omega)⟩
      have hg2 : (groupsL.map V.str)[j]? = some (.str g) := by rw [List.getElem?_map, hg]; rfl
      exact ⟨l, _, _, _, rfl, rfl, SqL.of hl3, atI_nat hg2, g, S3, x4, x5, x6, x7, x8, x9, x10, x11, x12, x13, x14, x15, rfl, h3, c3, groups_hm g (List.mem_of_getElem? hg), TabS.kept tab2 hS2 k3⟩
    rintro σ H2 ⟨g, S2, x4, x5, x6, x7, x8, x9, x10, x11, x12, x13, x14, x15, rfl, hS2, hc2, hg, tab2⟩
    -- the model
    refine ⟨fun σ H3 => ∃ (d pl sp : Addr) (k : Str) (ps : List MT) (X : Addr → Prop) (S3 : Stm) (x5 x6 x7 x8 x9 x10 x11 x12 x13 x14 x15 : Option V), σ = [some (.ref sc), some (.ref a0), some (.int (0 + (i : Nat))), some (.str g), some (.ref d), x5, x6, x7, x8, x9, x10, x11, x12, x13, x14, x15] ∧ StmAt H3 a0 c0 S3 ∧ S3.cnt ≤ S2.cnt + 36362 ∧ TabS H3 Pt lmQ ∧
      MAt Cs (fun _ => none) (res X H3) (.md d pl sp k ps) ∧ (MT.md d pl sp k ps).mds.Nodup ∧ (MT.md d pl sp k ps).mds.length ≤ 606 ∧ (MT.md d pl sp k ps).hgt ≤ 32 ∧ CfM (.md d pl sp k ps) ∧ X a0 ∧ X c0 ∧ X Pt ∧ DdOk X H3, ?_, ?_⟩
    · refine ⟨_, rfl, _, rfl, _, rfl, a0, c0, S2, 17, rfl, hS2, by omega, by decide, by decide, fun H3 S3 r h3 c3 k3 r0 r1 => ?_⟩
      refine ⟨_, _, rfl, rfl, by show 1 ≤ sizeLine; decide, fun lf nlf => ?_⟩
      have d4 : Ds (upd H3 lf (.lst [.int (3 + r)])) a0 c0 lf S3 (3 + r) := ⟨h3.keep (same_new nlf), upd_same, (ne_of_none h3.lst nlf).symm, (ne_of_none h3.cel nlf).symm⟩
      have tab4 := TabS.same (TabS.kept tab2 hS2 k3) (same_new (o := .lst [.int (3 + r)]) nlf)
      have nPt : Pt ≠ lf := by
        obtain ⟨ps, e, _⟩ := TabS.kept tab2 hS2 k3
        exact ne_of_none e nlf
      generalize upd H3 lf (.lst [.int (3 + r)]) = H4 at d4 tab4 ⊢
      refine ⟨a0, c0, lf, S3, 3 + r, 5, g, rfl, d4, hg, by omega, by omega, by decide, by decide, by omega, fun H5 S5 m hmd h5 k5 at5 nd5 ln5 ht5 c5 _ cf5 => ?_⟩
      cases m with
      | at_ v => cases hmd
      | ls a ps => cases hmd
      | tu a ps => cases hmd
      | md d pl sp k ps =>
        refine ⟨d, pl, sp, k, ps, fun b => was H4 b ∧ b ≠ lf, S5, x5, x6, x7, x8, x9, x10, x11, x12, x13, x14, x15, rfl, h5, by omega, TabS.kpX tab4 d4 k5, at5.up (res_up fun b o n e => ⟨fun z => n z.1, e⟩), nd5, ln5, ht5, cf5, ⟨d4.in_ _ (by simp), d4.na.symm⟩, ⟨d4.in_ _ (by simp), d4.nc.symm⟩, ⟨?_, nPt⟩, fun b ⟨⟨o, e, n⟩, nb⟩ => ?_⟩
        · obtain ⟨ps, e, _⟩ := tab4
          exact was_of e
        · by_cases y1 : b = a0
          · rw [y1]; exact was_of h5.lst
          by_cases y2 : b = c0
          · rw [y2]; exact was_of h5.cel
          exact ⟨o, k5 b o (by simp [y1, y2, nb]) e, n⟩
    rintro σ H3 ⟨d, pl, sp, k, ps, X, S3, x5, x6, x7, x8, x9, x10, x11, x12, x13, x14, x15, rfl, hS3, hc3, tab3, at3, nd3, ln3, ht3, cf, xa, xc, xP, dOk⟩
    have rnone : ∀ {b : Addr} {Hx : Hp}, X b → res X Hx b = none := fun {b Hx} hb => by unfold res; exact if_pos hb
    -- its node
    refine ⟨fun σ H5 => ∃ (p : Addr) (nd : Addr → Option Addr) (T : Hp) (x6 x7 x8 x9 x10 x11 x12 x13 x14 x15 : Option V), σ = [some (.ref sc), some (.ref a0), some (.int (0 + (i : Nat))), some (.str g), some (.ref d), some (.ref p), x6, x7, x8, x9, x10, x11, x12, x13, x14, x15] ∧ StmAt H5 a0 c0 S3 ∧ TabS H5 Pt lmQ ∧ Same T H5 ∧ T a0 = none ∧ T c0 = none ∧ T Pt = none ∧ MAt Cs nd T (.md d pl sp k ps) ∧ So C nd T T (.md d pl sp k ps) (.ref p), ?_, ?_⟩
    · refine ⟨_, rfl, fun _ => none, fun b => X b ∨ b ∈ (MT.md d pl sp k ps).mds, .md d pl sp k ps, rfl, at3.up res_out, rfl, by omega, nd3, fun b hb => .inr hb, fun b hb => ?_, fun H5 v nd' mv ip vp so => ?_⟩
      · rcases hb with hb | hb
        · exact dOk b hb
        · obtain ⟨kvs, e⟩ := (at3.up res_out).has b hb
          exact was_of e
      · have mdk : ∀ d' ∈ (MT.md d pl sp k ps).mds, ∃ kvs, H3 d' = some (.dK kvs) := (at3.up res_out).has
        have kept : ∀ b o, H3 b = some o → (∀ kvs, o ≠ .dK kvs) → H5 b = some o := fun b o e n => mv.kept mdk e n
        have mX := mv_resX (X := X) mv fun d' hd => by
          obtain ⟨kvs, e⟩ := at3.has d' hd
          exact (res_at e).1
        have so1 := So.at_heap (Cs := Cs) (nd0 := fun _ => none) (S' := res X H3) (fun a xs e => (res_at e).2) so at3
        have so2 := So.fwL (S' := res X H5) (fun b xs e => mX.kept at3.has e fun kvs z => by cases z) so1
        have so3 := So.up (nd' := nd') (res_up (B' := X) (H' := H5) fun b o n e => ⟨fun z => n (.inl z), e⟩) so2 fun _ _ => rfl
        obtain ⟨p, rfl⟩ : ∃ p, v = .ref p := by
          cases so3 with
          | md _ _ _ _ _ _ _ => exact ⟨_, rfl⟩
        exact ⟨p, nd', res X H5, x6, x7, x8, x9, x10, x11, x12, x13, x14, x15, rfl, ⟨kept _ _ hS3.lst (fun _ z => by cases z), kept _ _ hS3.cel (fun _ z => by cases z), hS3.ne, hS3.len, hS3.cur0, hS3.cnt0, hS3.mix0, hS3.mix1⟩, tabS_up tab3 (fun b ps e => kept b _ e fun _ z => by cases z) (fun b φ e => kept b _ e fun _ z => by cases z), res_out, rnone xa, rnone xc, rnone xP, at3.mv mX at3.has, so3⟩
    rintro σ H5 ⟨p, nd, T, x6, x7, x8, x9, x10, x11, x12, x13, x14, x15, rfl, hS5, tab5, sT5, Ta, Tc, TP, at_, so⟩
    have keepT : ∀ {Hx Hy : Hp}, Same T Hx → Kept a0 c0 Hx Hy → Same T Hy := fun {Hx Hy} s k b o e => k b o (fun z => by rw [z, Ta] at e; cases e) (fun z => by rw [z, Tc] at e; cases e) (s b o e)
    -- the handlers' kind
    refine ⟨fun σ H6 => ∃ (kd : Str) (S4 : Stm) (x7 x8 x9 x10 x11 x12 x13 x14 x15 : Option V), σ = [some (.ref sc), some (.ref a0), some (.int (0 + (i : Nat))), some (.str g), some (.ref d), some (.ref p), some (.str kd), x7, x8, x9, x10, x11, x12, x13, x14, x15] ∧ StmAt H6 a0 c0 S4 ∧ S4.cnt ≤ S3.cnt + 1 ∧ TabS H6 Pt lmQ ∧ Same T H6, ?_, ?_⟩
    · obtain ⟨l, hl, hll⟩ := msN_ex 34 (.md d pl sp k ps) rfl (by omega)
      refine ⟨_, rfl, _, rfl, nd, .md d pl sp k ps, l, rfl, at_.up sT5, hl, by omega, fun H6 b nb s6 hb => ⟨b, rfl, ⟨_, SqL.of hb⟩, fun D nD => ?_⟩⟩
      refine lc_list (K := K) (a := b) (xs := l.map MT.val) (fun j H7 => Same H6 H7 ∧ ∃ ks : List Str, ks.length = j ∧ H7 D = some (.lst (ks.map V.str))) ⟨same_new nD, [], rfl, upd_same⟩ (fun j H7 _ ⟨s, _⟩ => SqL.of (s _ _ hb)) ?_ ?_
      · rintro j x H7 hx ⟨s7, ks, lk, h7⟩
        rw [List.getElem?_map] at hx
        obtain ⟨mj, hmj, rfl⟩ := Option.map_eq_some_iff.mp hx
        have hj := (List.getElem?_eq_some_iff.mp hmj).1
        obtain ⟨aj, dj⟩ := msN_at 34 _ l hl at_ mj (List.mem_of_getElem? hmj)
        cases mj with
        | at_ v => cases dj
        | ls a ps => cases dj
        | tu a ps => cases dj
        | md d' pl' sp' k' ps' =>
          cases aj with
          | md z1 _ _ _ _ _ _ _ =>
          refine ⟨rfl, ?_⟩
          unfold tYes
          refine iteT ?_
          have g1 := DGet.k (k := Sum.inr "kind") (s7 _ _ (s6 _ _ (sT5 _ _ z1)))
          rw [show valV (mdKv k' pl' sp' (nd d')) (Sum.inr "kind") = some (V.str k') from by unfold mdKv; cases nd d' <;> rfl] at g1
          refine ⟨_, rfl, d', .str k', rfl, g1, _, h7, by rw [List.length_map]; omega, fun c o e => ?_, ks ++ [k'], by rw [List.length_append, lk]; rfl, ?_⟩
          · rw [upd_ne (ne_of_none e nD)]; exact s7 _ _ e
          · rw [upd_same, List.map_append]
            rfl
      · rintro H7 ⟨s7, ks, lk, h7⟩
        have s57 := s6.trans s7
        have hS7 := hS5.keep s57
        have l1 : 0 < l.length := by
          obtain ⟨_, _, _, _, _, ls, _, e, _⟩ := hl
          rw [e]; exact Nat.zero_lt_succ _
        rw [List.length_map] at lk
        have nD5 := s6.free nD
        refine ⟨a0, c0, D, S3, ks.map V.str, rfl, hS7, by omega, h7, (ne_of_none hS5.lst nD5).symm, (ne_of_none hS5.cel nD5).symm, by rw [List.length_map]; omega, by rw [List.length_map]; omega, fun H8 S8 x h8 c8 k8 hx => ?_⟩
        obtain ⟨kd, _, rfl⟩ := List.mem_map.mp hx
        exact ⟨kd, S8, x7, x8, x9, x10, x11, x12, x13, x14, x15, rfl, h8, c8, TabS.kept (TabS.same tab5 s57) hS7 k8, keepT (sT5.trans s57) k8⟩
    rintro σ H6 ⟨kd, S4, x7, x8, x9, x10, x11, x12, x13, x14, x15, rfl, hS6, hc4, tab6, sT6⟩
    -- way, start, met
    refine ⟨fun σ H7 => ∃ (wy st : Nat) (mt : Addr) (S5 : Stm) (x10 x11 x12 x13 x14 x15 : Option V), σ = [some (.ref sc), some (.ref a0), some (.int (0 + (i : Nat))), some (.str g), some (.ref d), some (.ref p), some (.str kd), some (.int (wy : Int)), some (.int (st : Int)), some (.ref mt), x10, x11, x12, x13, x14, x15] ∧ wy < 19 ∧ st < 3 ∧ StmAt H7 a0 c0 S5 ∧ S5.cnt ≤ S4.cnt + 2 ∧ TabS H7 Pt lmQ ∧ Same T H7 ∧ T mt = none ∧ H7 mt = some (.lst []) ∧ mt ≠ a0 ∧ mt ≠ c0, ?_, ?_⟩
    · refine ⟨_, rfl, a0, c0, S4, 19, rfl, hS6, by omega, by decide, by decide, fun H7 S7 r7 h7 c7 k7 r70 r71 => ⟨_, rfl, a0, c0, S7, 3, rfl, h7, by omega, by decide, by decide, fun H8 S8 r8 h8 c8 k8 r80 r81 => ⟨by show 0 ≤ sizeLine; exact Nat.zero_le _, fun mt nmt => ⟨by show 3 ≤ sizeLine; decide, fun t nt => ?_⟩⟩⟩⟩
      obtain ⟨wy, rfl⟩ : ∃ j : Nat, r7 = (j : Int) := ⟨r7.toNat, by omega⟩
      obtain ⟨st, rfl⟩ : ∃ j : Nat, r8 = (j : Int) := ⟨r8.toNat, by omega⟩
      have s9 := same_new (o := .lst []) nmt
      have hm9 : (upd H8 mt (.lst [])) mt = some (.lst []) := upd_same
      generalize upd H8 mt (.lst []) = H9 at s9 hm9 nt ⊢
      have s10 := same_new (o := .tup [.int (wy : Int), .int (st : Int), .ref mt]) nt
      have s810 := s9.trans s10
      have sT8 := keepT (keepT sT6 k7) k8
      refine ⟨t, _, rfl, SqT.of upd_same, rfl, _, _, rfl, _, _, rfl, _, _, rfl, rfl, wy, st, mt, S8, x10, x11, x12, x13, x14, x15, rfl, by omega, by omega, h8.keep s810, by omega, TabS.same (TabS.kept (TabS.kept tab6 hS6 k7) h7 k8) s810, sT8.trans s810, sT8.free nmt, s10 _ _ hm9, (ne_of_none h8.lst nmt).symm, (ne_of_none h8.cel nmt).symm⟩
    rintro σ H7 ⟨wy, st, mt, S5, x10, x11, x12, x13, x14, x15, rfl, hw, hst, hS7, hc5, tab7, sT7, Tm, hmt, mta, mtc⟩
    -- the calls
    obtain ⟨B, eB⟩ : ∃ B, B = (MT.md d pl sp k ps).cl kd k "" "" := ⟨_, rfl⟩
    have lB : B.length ≤ 606 := by
      have z := (cl_len kd 33).1 (.md d pl sp k ps) (by omega) k "" ""
      rw [← eB] at z
      omega
    have wdB : ∀ x ∈ B, okWd x.2.2 := eB ▸ (cl_words (kd := kd) 33).1 (.md d pl sp k ps) (by omega) at_ k "" "" okWd_nil
    refine ⟨fun σ H8 => ∃ (lc : Addr) (x11 x12 x13 x14 x15 : Option V), σ = [some (.ref sc), some (.ref a0), some (.int (0 + (i : Nat))), some (.str g), some (.ref d), some (.ref p), some (.str kd), some (.int (wy : Int)), some (.int (st : Int)), some (.ref mt), some (.ref lc), x11, x12, x13, x14, x15] ∧ Same H7 H8 ∧ CallsAt H8 lc B, ?_, ?_⟩
    · have z1 : ∃ kvs, T d = some (.dK kvs) ∧ valV kvs (.inr "kind") = some (.str k) := by
        cases at_ with
        | md z1 _ _ _ _ _ _ _ => exact ⟨_, z1, by unfold mdKv; cases nd d <;> rfl⟩
      obtain ⟨kvs, z1, z2⟩ := z1
      have g1 := DGet.k (k := Sum.inr "kind") (sT7 _ _ z1)
      rw [z2] at g1
      refine ⟨_, rfl, _, rfl, d, .str k, rfl, g1, _, rfl, nd, .md d pl sp k ps, k, "", "", kd, rfl, rfl, at_.up sT7, by omega, by omega, fun H8 lc s8 ca => ⟨lc, x11, x12, x13, x14, x15, rfl, s8, eB ▸ ca⟩⟩
    rintro σ H8 ⟨lc, x11, x12, x13, x14, x15, rfl, s8, ca⟩
    -- the bad ones
    refine ⟨fun σ H9 => ∃ (lb : Addr) (acc : List Nat) (x12 x13 x14 x15 : Option V), σ = [some (.ref sc), some (.ref a0), some (.int (0 + (i : Nat))), some (.str g), some (.ref d), some (.ref p), some (.str kd), some (.int (wy : Int)), some (.int (st : Int)), some (.ref mt), some (.ref lc), some (.ref lb), x12, x13, x14, x15] ∧ Same H8 H9 ∧ H8 lb = none ∧ H9 lb = some (.lst (acc.map fun b : Nat => V.int (b : Int))) ∧ ((acc = [] ∧ scan st wy 0 B = none) ∨ ∃ b r x, acc = b :: r ∧ B[b]? = some x ∧ scan st wy 0 B = some (x, b)), ?_, ?_⟩
    · obtain ⟨ts, hlc, lts, hts⟩ := ca
      refine ⟨_, rfl, _, rfl, lc, _, rfl, .inl (SqL.of hlc), _, _, rfl, ⟨by omega, by omega, by rw [List.length_map]; omega, by rw [List.length_map]; omega⟩, fun D nD => ?_⟩
      rw [List.length_map, lts]
      refine lc_range (lo := (st : Int)) (n := ((B.length : Int) - (st : Int)).toNat) (fun i H9 => Same H8 H9 ∧ ∃ acc : List Nat, H9 D = some (.lst (acc.map fun b : Nat => V.int (b : Int))) ∧ acc.length ≤ i ∧ ((acc = [] ∧ ∀ (j : Nat) x, B[j]? = some x → st ≤ j → j < st + i → badB x.2.2 wy = false) ∨ ∃ b r x, acc = b :: r ∧ B[b]? = some x ∧ st ≤ b ∧ badB x.2.2 wy = true ∧ ∀ (j : Nat) y, j < b → B[j]? = some y → st ≤ j → badB y.2.2 wy = false)) ⟨same_new nD, [], upd_same, Nat.le_refl _, .inl ⟨rfl, fun j x _ h1 h2 => by omega⟩⟩ ?_ ?_
      · rintro i H9 hi ⟨s9, acc, h9, la, inv⟩
        refine ⟨rfl, ?_⟩
        obtain ⟨x, hx⟩ : ∃ x, B[st + i]? = some x := ⟨_, List.getElem?_eq_getElem (by omega)⟩
        obtain ⟨t, ht⟩ : ∃ t, ts[st + i]? = some t := ⟨_, List.getElem?_eq_getElem (by omega)⟩
        have okx := wdB x (List.mem_of_getElem? hx)
        have e1 : (st : Int) + (i : Int) = ((st + i : Nat) : Int) := by omega
        rw [e1]
        refine ⟨_, rfl, _, rfl, lc, _, _, _, rfl, rfl, SqL.of (s9 _ _ hlc), atI_nat (by rw [List.getElem?_map, ht]; rfl), t, _, _, _, rfl, rfl, SqT.of (s9 _ _ (hts _ _ _ ht hx)), rfl, _, rfl, x.2.2, wy, rfl, hw, okx.1, okx.2, fun H10 s10 => ?_⟩
        have s810 := s9.trans s10
        refine ⟨_, rfl, ?_⟩
        cases eb : badB x.2.2 wy with
        | true =>
          rw [if_pos rfl]
          refine ⟨_, rfl, acc.map fun b : Nat => V.int (b : Int), s10 _ _ h9, by rw [List.length_map]; have zS : (1000 : Nat) ≤ sizeLine := (by decide); omega, fun c o e => ?_, acc ++ [st + i], ?_, by rw [List.length_append]; exact Nat.succ_le_succ la, .inr ?_⟩
          · rw [upd_ne (ne_of_none e nD)]; exact s810 _ _ e
          · rw [upd_same, List.map_append]
            rfl
          · rcases inv with ⟨rfl, inv⟩ | ⟨b, r, y, rfl, i1, i2, i3, i4⟩
            · exact ⟨st + i, [], x, rfl, hx, by omega, eb, fun j y hj hy h1 => inv j y hy h1 hj⟩
            · exact ⟨b, r ++ [st + i], y, rfl, i1, i2, i3, i4⟩
        | false =>
          rw [if_neg (by decide)]
          refine ⟨s810, acc, s10 _ _ h9, by omega, ?_⟩
          rcases inv with ⟨rfl, inv⟩ | h
          · refine .inl ⟨rfl, fun j y hy h1 h2 => ?_⟩
            by_cases z : j = st + i
            · rw [z, hx] at hy
              cases hy
              exact eb
            · exact inv j y hy h1 (by omega)
          · exact .inr h
      · rintro H9 ⟨s9, acc, h9, _, inv⟩
        refine ⟨D, acc, x12, x13, x14, x15, rfl, s9, nD, h9, ?_⟩
        rcases inv with ⟨rfl, inv⟩ | ⟨b, r, x, rfl, i1, i2, i3, i4⟩
        · refine .inl ⟨rfl, scan_none fun j x hx h1 => inv j x hx (by omega) ?_⟩
          have := (List.getElem?_eq_some_iff.mp hx).1
          omega
        · refine .inr ⟨b, r, x, rfl, i1, ?_⟩
          have z := scan_some (st := st) (wy := wy) (c := 0) i1 (by omega) i3 fun j y hj hy h1 => i4 j y hj hy (by omega)
          rw [Nat.zero_add] at z
          exact z
    rintro σ H9 ⟨lb, acc, x12, x13, x14, x15, rfl, s9, nlb, hlb, inv⟩
    -- what is due
    refine ⟨fun σ H10 => ∃ (u : V) (x13 x14 x15 : Option V), σ = [some (.ref sc), some (.ref a0), some (.int (0 + (i : Nat))), some (.str g), some (.ref d), some (.ref p), some (.str kd), some (.int (wy : Int)), some (.int (st : Int)), some (.ref mt), some (.ref lc), some (.ref lb), some u, x13, x14, x15] ∧ Same H9 H10 ∧ ((scan st wy 0 B = none ∧ u = .str "done") ∨ ∃ z t, scan st wy 0 B = some z ∧ u = .ref t ∧ H10 t = some (.tup [.str z.1.1, .str z.1.2.1])), ?_, ?_⟩
    · obtain ⟨ts, hlc, lts, hts⟩ := ca
      refine ⟨_, rfl, by show 0 ≤ sizeLine; exact Nat.zero_le _, fun e ne => ⟨lb, e, _, rfl, rfl, same_new ne _ _ hlb, upd_same, _, rfl, ?_⟩⟩
      have s10 := same_new (o := .lst []) ne
      generalize upd H9 e (.lst []) = H10 at s10 ⊢
      rcases inv with ⟨rfl, sc0⟩ | ⟨b, r, x, rfl, hx, sc0⟩
      · refine iteF ?_
        exact ⟨_, x13, x14, x15, rfl, s10, .inl ⟨sc0, rfl⟩⟩
      · refine iteT ?_
        obtain ⟨t, ht⟩ : ∃ t, ts[b]? = some t := ⟨_, List.getElem?_eq_getElem (by have := (List.getElem?_eq_some_iff.mp hx).1; omega)⟩
        refine ⟨_, rfl, _, rfl, lb, _, _, _, rfl, rfl, SqL.of (s10 _ _ hlb), atI_nat (j := 0) rfl, lc, _, _, _, rfl, rfl, SqL.of (s10 _ _ (s9 _ _ hlc)), atI_nat (by rw [List.getElem?_map, ht]; rfl), _, rfl, t, _, rfl, SqT.of (s10 _ _ (s9 _ _ (hts _ _ _ ht hx))), ?_, fun q nq => ?_⟩
        · show ¬ (HT.sIx 3 0 none = 0 ∧ HT.sIx 3 3 (some 2) = 3)
          decide
        · exact ⟨_, x13, x14, x15, rfl, s10.trans (same_new nq), .inr ⟨_, q, sc0, rfl, upd_same⟩⟩
    rintro σ H10 ⟨u, x13, x14, x15, rfl, s10, due⟩
    -- the transform
    have s710 := (s8.trans s9).trans s10
    have tab10 := TabS.same tab7 s710
    have hS10 := hS7.keep s710
    have sT10 := sT7.trans s710
    have mt10 := s710 _ _ hmt
    have nlm : lb ≠ mt := fun z => by
      have e := s8 _ _ hmt
      rw [← z, nlb] at e
      cases e
    have hlb10 := s10 _ _ hlb
    obtain ⟨ts, hlc, lts, _⟩ := ca
    have hlc10 := s10 _ _ (s9 _ _ hlc)
    have nPt : ∀ {b : Addr} {o : HO}, H10 b = some o → (∀ ps, o ≠ .tbl ps) → b ≠ Pt := fun {b o} e n z => by
      obtain ⟨ps, e2, _⟩ := tab10
      rw [z, e2] at e
      exact n _ (Option.some.inj e).symm
    let Inv : Hp → Prop := fun H14 => StmAt H14 a0 c0 S5 ∧ TabS H14 Pt lmQ ∧ Same T H14 ∧ H14 lb = some (.lst (acc.map fun b : Nat => V.int (b : Int))) ∧ (∃ xs : List V, H14 lc = some (.lst xs) ∧ xs.length = B.length) ∧ ∃ cnt : Nat, H14 mt = some (.lst (List.replicate cnt (.str kd))) ∧ cnt ≤ 1000 ∧ ((∃ z, scan st wy 0 B = some z ∧ cnt = z.2 + 1) ∨ (scan st wy 0 B = none ∧ cnt = B.length))
    have fin15 : ∀ H14 H15, Inv H14 → Same H14 H15 → Inv H15 := fun H14 H15 ⟨i1, i2, i3, i4, ⟨xs, i5, i6⟩, cnt, i7, i8, i9⟩ s15 => ⟨i1.keep s15, TabS.same i2 s15, i3.trans s15, s15 _ _ i4, ⟨xs, s15 _ _ i5, i6⟩, cnt, s15 _ _ i7, i8, i9⟩
    refine ⟨fun σ H14 => σ = [some (.ref sc), some (.ref a0), some (.int (0 + (i : Nat))), some (.str g), some (.ref d), some (.ref p), some (.str kd), some (.int (wy : Int)), some (.int (st : Int)), some (.ref mt), some (.ref lc), some (.ref lb), some u, x13, x14, x15] ∧ Inv H14, ?_, ?_⟩
    · refine ⟨_, rfl, fun d1 nd1 => ⟨_, rfl, _, rfl, _, rfl, _, rfl, rfl, TabS.same tab10 (same_new nd1), fun H12 gg c' cl kp tab2 ngg lam cellsn => ?_⟩⟩
      have nd1P : d1 ≠ Pt := fun z => by
        obtain ⟨ps, e2, _⟩ := tab10
        rw [← z, nd1] at e2
        cases e2
      have e12 : ∀ b o, b ≠ Pt → H10 b = some o → H12 b = some o := fun b o n e => kp b o n (same_new nd1 _ _ e)
      have hd12 : H12 d1 = some (.dK []) := kp _ _ nd1P upd_same
      refine ⟨hd12, [(.inr kd, .ref gg)], rfl, by show 1 ≤ 15; decide, ?_⟩
      have e13 : ∀ b o, b ≠ Pt → H10 b = some o → (upd H12 d1 (.dK [(.inr kd, .ref gg)])) b = some o := fun b o n e => by
        rw [upd_ne (ne_of_none e nd1)]
        exact e12 b o n e
      have hd13 : (upd H12 d1 (.dK [(.inr kd, .ref gg)])) d1 = some (.dK [(.inr kd, .ref gg)]) := upd_same
      have lam13 : LamAt (upd H12 d1 (.dK [(.inr kd, .ref gg)])) gg ⟨"<lambda>", lmQ, lmP, [], lmS, cl, c'⟩ lmB lmFr [.int (wy : Int), .int (st : Int), .ref mt] := lam.up fun b φ e => by
        rw [upd_ne fun z => by rw [z, hd12] at e; cases e]
        exact e
      have tab13 : TabS (upd H12 d1 (.dK [(.inr kd, .ref gg)])) Pt lmQ := tabS_up tab2 (fun b ps e => by
        rw [upd_ne fun z => by rw [z, hd12] at e; cases e]
        exact e) fun b φ e => by
        rw [upd_ne fun z => by rw [z, hd12] at e; cases e]
        exact e
      rw [show mergeK [] [((Sum.inr kd : Key), V.ref gg)] = [(.inr kd, .ref gg)] from rfl]
      generalize upd H12 d1 (.dK [(.inr kd, .ref gg)]) = H13 at e13 hd13 lam13 tab13 ⊢
      have mt13 := e13 _ _ (nPt mt10 fun _ z => by cases z) mt10
      have sT13 : Same T H13 := fun b o e => e13 b o (fun z => by rw [z, TP] at e; cases e) (sT10 b o e)
      have sM13 : Same T (res (fun b => b = mt) H13) := fun b o e => res_in (fun z => by rw [z, Tm] at e; cases e) (sT13 b o e)
      -- what is so afterwards
      have fin : ∀ H14 cnt, KpX [mt] H13 H14 → H14 mt = some (.lst (List.replicate cnt (.str kd))) → cnt ≤ 1000 → ((∃ z, scan st wy 0 B = some z ∧ cnt = z.2 + 1) ∨ (scan st wy 0 B = none ∧ cnt = B.length)) → Inv H14 := fun H14 cnt k14 m14 c1 hc => by
        have e14 : ∀ b o, b ≠ mt → b ≠ Pt → H10 b = some o → H14 b = some o := fun b o n1 n2 e => k14 b o (fun z => n1 (List.mem_singleton.mp z)) (e13 b o n2 e)
        refine ⟨⟨e14 _ _ mta.symm (nPt hS10.lst fun _ z => by cases z) hS10.lst, e14 _ _ mtc.symm (nPt hS10.cel fun _ z => by cases z) hS10.cel, hS10.ne, hS10.len, hS10.cur0, hS10.cnt0, hS10.mix0, hS10.mix1⟩, ?_, ?_, e14 _ _ nlm (nPt hlb10 fun _ z => by cases z) hlb10, ?_, cnt, m14, c1, hc⟩
        · exact tabS_up tab13 (fun b ps e => k14 _ _ (fun z => by rw [List.mem_singleton.mp z, mt13] at e; cases e) e) fun b φ e => k14 _ _ (fun z => by rw [List.mem_singleton.mp z, mt13] at e; cases e) e
        · exact fun b o e => k14 b o (fun z => by rw [List.mem_singleton.mp z, Tm] at e; cases e) (sT13 b o e)
        · by_cases z : lc = mt
          · rw [z, mt10] at hlc10
            have e0 : ts.map V.ref = [] := ((HO.lst.inj (Option.some.inj hlc10)).symm)
            have l0 : B.length = 0 := by
              have := congrArg List.length e0
              rw [List.length_map] at this
              rw [← lts]
              exact this
            have : B = [] := List.length_eq_zero_iff.mp l0
            rcases hc with ⟨z, e, _⟩ | ⟨_, e⟩
            · rw [this, scan] at e
              cases e
            · exact ⟨_, z ▸ m14, by rw [List.length_replicate, e]⟩
          · exact ⟨_, e14 _ _ z (nPt hlc10 fun _ z => by cases z) hlc10, by rw [List.length_map, lts]⟩
      refine .inl ⟨⟨d1, gg, ⟨"<lambda>", lmQ, lmP, [], lmS, cl, c'⟩, mt, kd, wy, st⟩, 0, nd, d, pl, sp, p, k, ps, rfl, ⟨hd13, ⟨cl, c', rfl⟩, lam13, hw, mt13⟩, at_.up sM13, so.same at_ sM13, cf, by omega, by omega, ?_, ?_⟩
      · intro z ez H14 Tt k14 m14 h14
        have ez : scan st wy 0 B = some z := eB ▸ ez
        rcases due with ⟨e, _⟩ | ⟨z2, t2, e, rfl, ht2⟩
        · rw [ez] at e; cases e
        rw [ez] at e
        cases e
        have zb : z.2 ≤ 606 := by
          rcases inv with ⟨_, e⟩ | ⟨b, r, x, _, hx, e⟩
          · rw [ez] at e; cases e
          · rw [ez] at e
            cases e
            have := (List.getElem?_eq_some_iff.mp hx).1
            show b ≤ 606
            omega
        have F14 := fin H14 _ k14 m14 (by omega) (.inl ⟨z, ez, rfl⟩)
        have ht14 : H14 t2 = some (.tup [.str z.1.1, .str z.1.2.1]) := k14 _ _ (fun y => by rw [List.mem_singleton.mp y, mt10] at ht2; cases ht2) (e13 _ _ (nPt ht2 fun _ z => by cases z) ht2)
        refine ⟨_, rfl, .inl ⟨Tt, t2, _, _, rfl, rfl, h14, ht14, .cons (.str _) (.cons (.str _) .nil), _, rfl, ?_⟩⟩
        refine iteF ?_
        refine ⟨_, rfl, _, rfl, nd, .md d pl sp k ps, .ref p, rfl, rfl, at_.up F14.2.2.1, so.same at_ F14.2.2.1, ht3, fun H15 s15 => ⟨_, rfl, ?_⟩⟩
        exact ⟨rfl, fin15 H14 H15 F14 s15⟩
      · intro en H14 k14 m14
        have en : scan st wy 0 B = none := eB ▸ en
        have m14 : H14 mt = some (.lst (List.replicate B.length (.str kd))) := by
          have z := m14
          rw [Nat.zero_add] at z
          exact eB ▸ z
        rcases due with ⟨_, rfl⟩ | ⟨z2, t2, e, rfl, ht2⟩
        rotate_left
        · rw [en] at e; cases e
        have F14 := fin H14 _ k14 m14 (by omega) (.inr ⟨en, rfl⟩)
        refine ⟨_, rfl, .inr ⟨rfl, rfl, _, rfl, ?_⟩⟩
        refine iteF ?_
        refine ⟨_, rfl, _, rfl, nd, .md d pl sp k ps, .ref p, rfl, rfl, at_.up F14.2.2.1, so.same at_ F14.2.2.1, ht3, fun H15 s15 => ⟨_, rfl, ?_⟩⟩
        exact ⟨rfl, fin15 H14 H15 F14 s15⟩
    rintro σ H14 ⟨rfl, hS14, tab14, sT14, hlb14, ⟨xs, hlc14, lxs⟩, cnt, hmt14, lcnt, hcnt⟩
    -- what the handlers met
    refine ⟨fun σ H15 => σ = [some (.ref sc), some (.ref a0), some (.int (0 + (i : Nat))), some (.str g), some (.ref d), some (.ref p), some (.str kd), some (.int (wy : Int)), some (.int (st : Int)), some (.ref mt), some (.ref lc), some (.ref lb), some u, x13, x14, x15] ∧ StmAt H15 a0 c0 S5 ∧ TabS H15 Pt lmQ, ?_, ?_⟩
    · refine ⟨_, rfl, _, rfl, by show 1 ≤ sizeLine; decide, fun l nl => ⟨_, rfl, by show 0 ≤ sizeLine; exact Nat.zero_le _, fun e ne => ?_⟩⟩
      have hl : (upd (upd H14 l (.lst [.str kd])) e (.lst [])) l = some (.lst [.str kd]) := same_new ne _ _ upd_same
      have he : (upd (upd H14 l (.lst [.str kd])) e (.lst [])) e = some (.lst []) := upd_same
      have s15 : Same H14 (upd (upd H14 l (.lst [.str kd])) e (.lst [])) := (same_new nl).trans (same_new ne)
      generalize upd (upd H14 l (.lst [.str kd])) e (.lst []) = H15 at hl he s15 ⊢
      refine ⟨lb, e, _, rfl, rfl, s15 _ _ hlb14, he, _, rfl, ?_⟩
      have zS : (1000 : Nat) ≤ sizeLine := by decide
      -- the two lists
      have done : ∀ n : Int, n = (cnt : Int) → rRep (.ref l) (.int n) H15 fun v H16 => rNeL (.ref mt) v H16 fun b H17 => b = .bl false ∧ Same H15 H17 := fun n hn => by
        refine ⟨l, n, _, rfl, rfl, hl, by omega, by omega, by show 1 * n.toNat ≤ sizeLine; omega, fun p np => ⟨mt, p, _, _, rfl, rfl, same_new np _ _ (s15 _ _ hmt14), upd_same, ?_, rfl, same_new np⟩⟩
        rw [hn, Int.toNat_natCast, List.flatten_replicate_singleton]
        exact eqZL_rep kd cnt
      have go : ∀ n : Int, n = (cnt : Int) → ∀ Qx : VK, (∀ H17, Same H15 H17 → Qx (.bl false) H17) → rRep (.ref l) (.int n) H15 fun v H16 => rNeL (.ref mt) v H16 Qx := fun n hn Qx q => by
        obtain ⟨l', k', xs', e1, e2, e3, e4, e5, e6, e7⟩ := done n hn
        refine ⟨l', k', xs', e1, e2, e3, e4, e5, e6, fun p np => ?_⟩
        obtain ⟨a, b, ys, zs, f1, f2, f3, f4, f5, f6⟩ := e7 p np
        exact ⟨a, b, ys, zs, f1, f2, f3, f4, f5, q _ f6.2⟩
      rcases inv with ⟨rfl, sc0⟩ | ⟨b, r, x, rfl, hx, sc0⟩
      · refine iteF ?_
        rcases hcnt with ⟨z, ez, _⟩ | ⟨_, ec⟩
        · rw [sc0] at ez; cases ez
        refine ⟨_, rfl, lc, _, rfl, .inl (SqL.of (s15 _ _ hlc14)), ?_⟩
        refine go _ (by rw [lxs, ec]) _ fun H17 s17 => ⟨_, rfl, ?_⟩
        exact iteF ⟨rfl, hS14.keep (s15.trans s17), TabS.same tab14 (s15.trans s17)⟩
      · refine iteT ?_
        rcases hcnt with ⟨z, ez, ec⟩ | ⟨ez, _⟩
        rotate_left
        · rw [sc0] at ez; cases ez
        rw [sc0] at ez
        cases ez
        refine ⟨_, rfl, lb, _, _, _, rfl, rfl, SqL.of (s15 _ _ hlb14), atI_nat (j := 0) rfl, _, _, rfl, rfl, ?_⟩
        refine go _ (by rw [ec]; rfl) _ fun H17 s17 => ⟨_, rfl, ?_⟩
        exact iteF ⟨rfl, hS14.keep (s15.trans s17), TabS.same tab14 (s15.trans s17)⟩
    rintro σ H15 ⟨rfl, hS15, tab15⟩
    -- what is no node
    refine ⟨fun σ H16 => ∃ (v : V) (t : Value) (S6 : Stm) (x14 x15 : Option V), σ = [some (.ref sc), some (.ref a0), some (.int (0 + (i : Nat))), some (.str g), some (.ref d), some (.ref p), some (.str kd), some (.int (wy : Int)), some (.int (st : Int)), some (.ref mt), some (.ref lc), some (.ref lb), some u, some v, x14, x15] ∧ StmAt H16 a0 c0 S6 ∧ S6.cnt ≤ S5.cnt + 1 ∧ TabS H16 Pt lmQ ∧ (∀ H17, Same H16 H17 → TyX K H17 v t) ∧ PySem.W.kitOne K t (.ref C) = some false, ?_, ?_⟩
    · refine ⟨_, rfl, by show 1 ≤ sizeLine; decide, fun l1 n1 => ?_⟩
      have s1 := same_new (o := .lst [.ref p]) n1
      have u1 : (upd H15 l1 (.lst [.ref p])) l1 = some (.lst [.ref p]) := upd_same
      generalize upd H15 l1 (.lst [.ref p]) = G1 at s1 u1 ⊢
      refine fun x2 d2 nx2 nd2 ne2 => ?_
      have s2 : Same G1 (upd (upd G1 d2 (.own x2)) x2 (.ins (Cs 0) d2 [])) := made_same0 nx2 nd2
      have u2 : (upd (upd G1 d2 (.own x2)) x2 (.ins (Cs 0) d2 [])) x2 = some (.ins (Cs 0) d2 []) := upd_same
      generalize upd (upd G1 d2 (.own x2)) x2 (.ins (Cs 0) d2 []) = G2 at s2 u2 ⊢
      refine fun d3 n3 => ?_
      have s3 := same_new (o := .dK []) n3
      have u3 : (upd G2 d3 (.dK [])) d3 = some (.dK []) := upd_same
      generalize upd G2 d3 (.dK []) = G3 at s3 u3 ⊢
      refine ⟨by show 6 ≤ sizeLine; decide, fun L4 n4 => ?_⟩
      have s4 := same_new (o := .lst [.non, .int 0, .str "Name", .ref l1, .ref x2, .ref d3]) n4
      have u4 : (upd G3 L4 (.lst [.non, .int 0, .str "Name", .ref l1, .ref x2, .ref d3])) L4 = some (.lst [.non, .int 0, .str "Name", .ref l1, .ref x2, .ref d3]) := upd_same
      generalize upd G3 L4 (.lst [.non, .int 0, .str "Name", .ref l1, .ref x2, .ref d3]) = G4 at s4 u4 ⊢
      have s15 := ((s1.trans s2).trans s3).trans s4
      have hS4 := hS15.keep s15
      have hS3 := hS15.keep ((s1.trans s2).trans s3)
      have hS2 := hS15.keep (s1.trans s2)
      have hS1 := hS15.keep s1
      have u1' := s4 _ _ (s3 _ _ (s2 _ _ u1))
      have u2' := s4 _ _ (s3 _ _ u2)
      have u3' := s4 _ _ u3
      refine ⟨_, rfl, a0, c0, S5, 6, rfl, hS4, by omega, by decide, by decide, fun H16 S6 r h16 c16 k16 r0 r1 => ?_⟩
      obtain ⟨j, rfl⟩ : ∃ j : Nat, r = (j : Int) := ⟨r.toNat, by omega⟩
      obtain ⟨v, t, hv, ty, kt⟩ : ∃ (v : V) (t : Value), ([.non, .int 0, .str "Name", .ref l1, .ref x2, .ref d3] : List V)[j]? = some v ∧ (∀ H17, Same H16 H17 → TyX K H17 v t) ∧ PySem.W.kitOne K t (.ref C) = some false := by
        rcases (by omega : j = 0 ∨ j = 1 ∨ j = 2 ∨ j = 3 ∨ j = 4 ∨ j = 5) with rfl | rfl | rfl | rfl | rfl | rfl
        · exact ⟨.non, .type "NoneType", rfl, fun _ _ => .base .non, W.nt _ (.head _)⟩
        · exact ⟨.int 0, .type "int", rfl, fun _ _ => .base (.int 0), W.nt _ (.tail _ (.tail _ (.head _)))⟩
        · exact ⟨.str "Name", .type "str", rfl, fun _ _ => .base (.str _), W.nt _ (.tail _ (.tail _ (.tail _ (.head _))))⟩
        · exact ⟨.ref l1, .type "list", rfl, fun _ s17 => .base (.lst (s17 _ _ (k16 _ _ (ne_of_none hS15.lst n1).symm (ne_of_none hS15.cel n1).symm u1'))), W.nt _ (.tail _ (.tail _ (.tail _ (.tail _ (.head _)))))⟩
        · exact ⟨.ref x2, .ref (Cs 0), rfl, fun _ s17 => .base (.ins (s17 _ _ (k16 _ _ (ne_of_none hS1.lst nx2).symm (ne_of_none hS1.cel nx2).symm u2')) (W.cl 0 (by decide)) (W.ha 0 (by decide)) W.hn W.ht (W.hm 0 (by decide))), W.kn 0 (by decide)⟩
        · exact ⟨.ref d3, .type "dict", rfl, fun _ s17 => .base (.dK (s17 _ _ (k16 _ _ (ne_of_none hS2.lst n3).symm (ne_of_none hS2.cel n3).symm u3'))), W.nt _ (.tail _ (.tail _ (.tail _ (.tail _ (.tail _ (.tail _ (.head _)))))))⟩
      exact ⟨L4, _, _, _, rfl, rfl, SqL.of (k16 _ _ (ne_of_none hS3.lst n4).symm (ne_of_none hS3.cel n4).symm u4), atI_nat hv, v, t, S6, x14, x15, rfl, h16, c16, TabS.kept (TabS.same tab15 s15) hS4 k16, ty, kt⟩
    rintro σ H16 ⟨v, t, S6, x14, x15, rfl, hS16, hc16, tab16, ty, kt⟩
    refine ⟨_, rfl, fun dd ndd => .inr ⟨v, .ref dd, t, rfl, ty _ (same_new ndd), kt, rfl, ?_⟩⟩
    rw [decide_eq_true (rfl : V.str "node" = V.str "node")]
    refine ⟨_, rfl, iteF ?_⟩
    refine ⟨S6, _, _, _, _, _, _, _, _, _, _, _, _, _, _, rfl, hS16.keep (same_new ndd), ?_, TabS.same tab16 (same_new ndd)⟩
    have : ((i + 1 : Nat) : Int) * 40000 = (i : Int) * 40000 + 40000 := by omega
    omega
  · rintro σ H' ⟨S, x2, x3, x4, x5, x6, x7, x8, x9, x10, x11, x12, x13, x14, x15, rfl, _, _, _⟩
    exact q H'
end
end Q8

namespace Q8
open PySem PySem.Spec PyProof.Rows L2 LamX TL
def faL0 : List He.Fa := [.mkr "Node", .cls "Node", .noat "Node" "kind", .noat "Node" "lineno", .noat "Node" "col_offset", .noat "Node" "end_lineno", .noat "Node" "end_col_offset", .noat "Node" "_fields", .meth "Node" "__getitem__", .meth "Node" "__setitem__", .mkr "Float", .mkr "Imaginary", .mkr "Octets", .cls "Dots", .cls "Float", .cls "Imaginary", .cls "Octets", .noat "Float" "mantissa", .noat "Float" "exponent", .noat "Imaginary" "number", .noat "Octets" "numbers", .meth "Dots" "__eq__", .meth "Float" "__eq__", .meth "Imaginary" "__eq__", .meth "Octets" "__eq__", .glo "_default", .glo "fields_of", .glo "check_node", .glo "copied", .glo "with_parts", .glo "transform", .glo "_transformed", .glo "_new_value", .glo "_new_items", .glo "_fits_list", .glo "_as_items", .glo "_law_draw", .glo "_law_pick", .glo "_law_table", .glo "_law_pattern_table"]
def faL1 : List He.Fa := [.glo "_law_fields", .glo "_law_group", .glo "_law_constants", .glo "_law_spot", .glo "_law_part", .glo "_law_model", .glo "_law_made_part", .glo "_law_node", .glo "_law_below", .glo "_law_models", .glo "_law_is_part", .glo "_law_is_so", .glo "_law_return", .glo "_law_acted", .glo "_law_bound", .glo "_law_calls", .glo "_law_is_bad", .glo "_law_ended", .glo "law", .glo "Node", .glo "FIELDS", .glo "ATTRIBUTES", .glo "LIST_MARKS", .glo "TreeError", .glo "BadNode", .glo "BadChange", .glo "Dots", .glo "Float", .glo "Imaginary", .glo "Octets", .free "isinstance", .free "str", .free "tuple", .free "list", .free "len", .free "zip", .free "int", .free "bool", .free "range", .free "sum"]
def faL2 : List He.Fa := [.free "repr", .free "dict", .free "all"]
def faL : List He.Fa := faL0 ++ faL1 ++ faL2
def dd (x : Str) (st : Stmt) : He.DefD := ⟨(x, none), x, x, defArgs st, defBody st, defScope st, [], []⟩
def dm (c m q : Str) (st : Stmt) : He.DefD := ⟨(c, some m), m, q, defArgs st, defBody st, defScope st, [], []⟩
def fnL : List He.DefD := [dd "_default" sDef, dd "fields_of" sFO, dd "check_node" sChk, dd "copied" sCo, dd "with_parts" sWp, dd "transform" sTf, dd "_transformed" sTr, dd "_new_value" sNv, dd "_new_items" sNw, dd "_fits_list" sFL, dd "_as_items" sAI, dd "_law_draw" sDraw, dd "_law_pick" sPick, dd "_law_table" sTb, dd "_law_pattern_table" sPt, dd "_law_fields" sFd, dd "_law_group" sGr, dd "_law_constants" sCn, dd "_law_spot" sSp, dd "_law_part" sPr, dd "_law_model" sMd, dd "_law_made_part" sMp, dd "_law_node" sNd, dd "_law_below" sBl, dd "_law_models" sMo, dd "_law_is_part" sIp, dd "_law_is_so" sIs, dd "_law_return" sRt, dd "_law_acted" sAc, dd "_law_bound" sBd, dd "_law_calls" sCa, dd "_law_is_bad" sIb, dd "_law_ended" sEn, dd "law" sLaw, dm "Node" "__init__" "Node.__init__" sNI, dm "Node" "__getitem__" "Node.__getitem__" sNG, dm "Node" "__setitem__" "Node.__setitem__" sNS, dm "Float" "__init__" "Float.__init__" sIn1, dm "Imaginary" "__init__" "Imaginary.__init__" sIn2, dm "Octets" "__init__" "Octets.__init__" sIn3, dm "Dots" "__eq__" "Dots.__eq__" sE0, dm "Float" "__eq__" "Float.__eq__" sE1, dm "Imaginary" "__eq__" "Imaginary.__eq__" sE2, dm "Octets" "__eq__" "Octets.__eq__" sE3, dm "BadChange" "__init__" "BadChange.__init__" sBc]
theorem fun_of {K : PySem.W.Frag} {x qual : Str} {st : Stmt} {f : Addr} {fd : FuncData} (F : FunD K x qual (defArgs st) (defBody st) (defScope st) [] [] f fd) : Fun K x qual st f fd := by
  obtain ⟨oc, od, dV, kV, doc, pm, an, cdv, ct, osl, rfl, lk, hcd, hd, _⟩ := F.ex
  rcases hd with ⟨_, rfl⟩ | ⟨e, _⟩
  · exact ⟨⟨oc, od, kV, doc, pm, an, cdv, ct, osl, rfl, lk, hcd⟩, F.kp⟩
  · exact absurd rfl e
def kysF0 : List Str := ["Module", "Expression", "FunctionDef", "AsyncFunctionDef", "ClassDef", "Return", "Delete", "Assign", "AugAssign", "AnnAssign", "For", "AsyncFor", "While", "If", "With", "AsyncWith", "Match", "Raise", "Assert", "Try"]
def kysF1 : List Str := ["Import", "ImportFrom", "Global", "Nonlocal", "Expr", "Pass", "Break", "Continue", "BoolOp", "NamedExpr", "BinOp", "UnaryOp", "Lambda", "IfExp", "Dict", "Set", "ListComp", "SetComp", "GeneratorExp", "DictComp"]
def kysF2 : List Str := ["Await", "Yield", "YieldFrom", "Compare", "Call", "FormattedValue", "JoinedStr", "Constant", "Attribute", "Subscript", "Starred", "Name", "List", "Tuple", "Slice", "comprehension", "ExceptHandler", "arguments", "arg", "keyword"]
def kysF3 : List Str := ["alias", "withitem", "match_case", "MatchValue", "MatchSingleton", "MatchSequence", "MatchOr", "MatchMapping", "MatchClass", "MatchStar", "MatchAs", "And", "Or", "Invert", "Not", "UAdd", "USub", "Load", "Store", "Del"]
def kysF4 : List Str := ["Add", "Sub", "Mult", "MatMult", "Div", "FloorDiv", "Pow", "LShift", "RShift", "BitOr", "BitXor", "BitAnd", "Eq", "NotEq", "Lt", "LtE", "Gt", "GtE", "Is", "IsNot"]
def kysF5 : List Str := ["In", "NotIn"]
def kysF : List Str := kysF0 ++ kysF1 ++ kysF2 ++ kysF3 ++ kysF4 ++ kysF5
theorem fnOk_ex {α : Type} {P : Program} {w : World} {K : PySem.W.Frag} {mg : Str → Option Value} {base : Heap} {CX : CXT} {k : Nat} {f : Addr} {fd : FuncData} {ps : List Str} {sp : α → Sp} (h : ∀ x, FnOk P w K mg base CX k f fd ps (sp x)) : FnOk P w K mg base CX k f fd ps (fun vs H Q E => ∃ x, sp x vs H Q E) :=
  ⟨fun vs H Q E ⟨x, q⟩ => (h x).len vs H Q E q, fun A outer s H args us vs Q E hr e0 hb r ⟨x, q⟩ => (h x).run A outer s H args us vs Q E hr e0 hb r q⟩
def tsL : List He.Tab := [((fun K => He.ga K "FIELDS"), kysF)]
def getB (K : PySem.W.Frag) : Bool := He.eqO (PySem.W.specialIn K (.builtin "object.__class__") "__get__") (some (some (.builtin "getset_descriptor.__get__"))) && decide (PySem.W.takesIn K (.builtin "object.__class__") = some true)
def clsB (K : PySem.W.Frag) (C : Addr) : Bool := He.eqO (PySem.W.findIn K (.ref C) "__class__") (some (some (.builtin "object.__class__"))) && decide (PySem.W.mroIn K C (.type "object") = some true)
def kiB (K : PySem.W.Frag) (t u : Value) (b : Bool) : Bool := decide (PySem.W.kitOne K t u = some b)
def excB (K : PySem.W.Frag) (D : Addr) : Bool := He.eqO (PySem.W.findIn K (.ref D) "__getattribute__") (some (some (.builtin "BaseException.__getattribute__"))) && (He.eqO (PySem.W.findIn K (.ref D) "__getattr__") (some none) &&
  (decide (PySem.W.subIn K (.ref D) (.type "BaseException") = some true) && (PySem.W.hasDictIn K D && clsB K D)))
theorem excB_ok {K : PySem.W.Frag} {D : Addr} (g : getB K = true) (h : excB K D = true) : ExcC K D := by
  unfold excB clsB at h
  unfold getB at g
  simp only [Bool.and_eq_true] at h g
  exact ⟨He.eqO_ok h.1, He.eqO_ok h.2.1, of_decide_eq_true h.2.2.1, h.2.2.2.1, He.eqO_ok h.2.2.2.2.1, He.eqO_ok g.1, of_decide_eq_true g.2, of_decide_eq_true h.2.2.2.2.2⟩
theorem clsB_ok {K : PySem.W.Frag} {C : Addr} (h : clsB K C = true) : PySem.W.findIn K (.ref C) "__class__" = some (some (.builtin "object.__class__")) ∧ PySem.W.mroIn K C (.type "object") = some true := by
  unfold clsB at h
  rw [Bool.and_eq_true] at h
  exact ⟨He.eqO_ok h.1, of_decide_eq_true h.2⟩
/-- the four classes of constants -/
def csK (K : PySem.W.Frag) : Nat → Addr
  | 0 => He.ga K "Dots"
  | 1 => He.ga K "Float"
  | 2 => He.ga K "Imaginary"
  | _ => He.ga K "Octets"
def fiK (K : PySem.W.Frag) (j : Nat) : Addr := He.ma K (csK K j) "__init__"
def fdK (d1 d2 d3 : FuncData) : Nat → FuncData
  | 1 => d1
  | 2 => d2
  | _ => d3
def tyL : List Value := [.type "NoneType", .type "bool", .type "int", .type "str", .type "list", .type "tuple", .type "dict"]
/-- a class of constants: no sequence, no node -/
def valB (K : PySem.W.Frag) (D C : Addr) : Bool := clsB K D && ((seqTs.all fun T => kiB K (.ref D) T false) && (kiB K (.ref D) (.ref C) false && decide (D ≠ C)))
theorem valB_ok {K : PySem.W.Frag} {D C : Addr} (h : valB K D C = true) : (PySem.W.findIn K (.ref D) "__class__" = some (some (.builtin "object.__class__")) ∧ PySem.W.mroIn K D (.type "object") = some true) ∧ (∀ T ∈ seqTs, PySem.W.kitOne K (.ref D) T = some false) ∧ PySem.W.kitOne K (.ref D) (.ref C) = some false ∧ D ≠ C := by
  unfold valB at h
  simp only [Bool.and_eq_true] at h
  exact ⟨clsB_ok h.1, fun T hT => of_decide_eq_true (List.all_eq_true.mp h.2.1 T hT), of_decide_eq_true h.2.2.1, of_decide_eq_true h.2.2.2⟩
def eqB (K : PySem.W.Frag) (D : Addr) : Bool := kiB K (.ref D) (.ref D) true && (kiB K (.ref D) (.type "bool") false && kiB K (.ref D) (.type "str") false)
theorem eqB_ok {K : PySem.W.Frag} {D : Addr} (h : eqB K D = true) : PySem.W.kitOne K (.ref D) (.ref D) = some true ∧ PySem.W.kitOne K (.ref D) (.type "bool") = some false ∧ PySem.W.kitOne K (.ref D) (.type "str") = some false := by
  unfold eqB at h
  simp only [Bool.and_eq_true] at h
  exact ⟨of_decide_eq_true h.1, of_decide_eq_true h.2.1, of_decide_eq_true h.2.2⟩
def fE (K : PySem.W.Frag) (j : Nat) : Addr := He.ma K (csK K j) "__eq__"
def dE (d0 d1 d2 d3 : FuncData) : Nat → FuncData
  | 0 => d0
  | 1 => d1
  | 2 => d2
  | _ => d3
/-- the table of the def that makes the handlers -/
def bdB (K : PySem.W.Frag) : Bool := match PySem.W.tabIn K "_law_bound" with
  | some (c, P) => (K.lookup P).isNone && (match K.lookup (He.ga K "_law_bound") with
    | some o => (match o.data with
      | .func fd => (match fd.code with
        | .ref c' => decide (c' = c)
        | _ => false)
      | _ => false)
    | none => false)
  | none => false
theorem bdB_ok {K : PySem.W.Frag} (h : bdB K = true) : ∃ c P, PySem.W.tabIn K "_law_bound" = some (c, P) ∧ K.lookup P = none ∧ ∀ (o : Obj) (fd : FuncData), K.lookup (He.ga K "_law_bound") = some o → o.data = .func fd → fd.code = .ref c := by
  unfold bdB at h
  split at h
  · rename_i c P ht
    rw [Bool.and_eq_true] at h
    refine ⟨c, P, ht, Option.isNone_iff_eq_none.mp h.1, fun o fd ho hd => ?_⟩
    have h2 := h.2
    rw [ho] at h2
    simp only [hd] at h2
    split at h2
    · rename_i c' hc
      rw [hc, of_decide_eq_true h2]
    · cases h2
  · cases h

def exL (K : PySem.W.Frag) : Bool := fldIs K (He.ga K "FIELDS") && (He.tupB K "LIST_MARKS" [.str "*", .str "+", .str "?*"] && (He.tupB K "ATTRIBUTES" [.str "lineno", .str "col_offset", .str "end_lineno", .str "end_col_offset"] && (getB K && (clsB K (He.ga K "Node") && (kiB K (.ref (He.ga K "Node")) (.ref (He.ga K "Node")) true && (kiB K (.ref (He.ga K "Node")) (.type "list") false && (PySem.W.noSeq K (He.ga K "Node") && (PySem.W.fnIn K (He.ma K (He.ga K "Node") "__getitem__") && (PySem.W.excIn K (He.ga K "BadNode") vErr "ValueError.__new__" && (PySem.W.keepIn K (.ref (He.ga K "BadNode")) && (decide (PySem.W.subIn K (.ref (He.ga K "BadNode")) (.type "BaseException") = some true) && (decide (PySem.W.typeIn K (.ref (He.ga K "BadNode")) = some (.type "type")) && (valB K (csK K 0) (He.ga K "Node") && (valB K (csK K 1) (He.ga K "Node") && (valB K (csK K 2) (He.ga K "Node") && (valB K (csK K 3) (He.ga K "Node") && ((tyL.all fun t => kiB K t (.ref (He.ga K "Node")) false) && (PySem.W.makesIn K (csK K 0) && (He.eqO (PySem.W.findIn K (.ref (csK K 0)) "__init__") (some (some (.builtin "object.__init__"))) && (PySem.W.keepIn K (.ref (csK K 0)) && (bdB K && (eqB K (csK K 0) && (eqB K (csK K 1) && (eqB K (csK K 2) && (eqB K (csK K 3) && (oexB K (He.ga K "BadChange") && (He.eqO (PySem.W.findIn K (.ref (He.ga K "BadChange")) "__setattr__") (some (some (.builtin "object.__setattr__"))) && (decide (PySem.W.subIn K (.ref (He.ga K "BadChange")) (.type "BaseException") = some true) && (decide (PySem.W.typeIn K (.ref (He.ga K "BadChange")) = some (.type "type")) && (PySem.W.keepIn K (.ref (He.ga K "BadChange")) && (He.eqO (PySem.W.findIn K (.ref (He.ga K "BadChange")) "__init__") (some (some (.ref (He.ma K (He.ga K "BadChange") "__init__")))) && (decide (PySem.W.typeIn K (.ref (He.ma K (He.ga K "BadChange") "__init__")) = some (.type "function")) && (He.eqO (PySem.W.findIn K (.ref (He.ga K "BadChange")) "kind") (some none) && (He.eqO (PySem.W.findIn K (.ref (He.ga K "BadChange")) "name") (some none) && (xfB K (He.ga K "BadChange") && (excB K (He.ga K "BadChange") && ((PySem.W.clsIn K (He.ga K "BadChange")).isSome && (decide (PySem.W.exmOne K (.ref (He.ga K "BadChange")) (.ref (He.ga K "BadNode")) = some false) && (decide (PySem.W.exmOne K (.ref (He.ga K "BadChange")) (.ref (He.ga K "TreeError")) = some true) && (decide (PySem.W.exmOne K (.ref (He.ga K "BadNode")) (.ref (He.ga K "BadNode")) = some true) && (kiB K (.ref (He.ga K "BadChange")) (.ref (He.ga K "BadChange")) true)))))))))))))))))))))))))))))))))))))))))
theorem facts {P : Program} {w : World} {K : PySem.W.Frag} {h : Heap} {mg : Str → Option Value} {f : Addr} (X : K.In h) (G : h.Ns mainGlobals mg) (hfa : mg ("law" : Str) = some (.ref f)) (c : He.SaysT faL fnL tsL w K) (e : exL K = true) :
    ∃ (fd : FuncData) (cb Pt : Addr), PySem.W.tabIn K "_law_bound" = some (cb, Pt) ∧ K.lookup Pt = none ∧ (∀ (s : Shared) (u : Value), BindsTo s fd ⟨[u], []⟩ [("_law_script", u)]) ∧ ∀ base : Heap, K.In base → base.Ns mainGlobals mg → LamX.TabB base mg cb Pt → FnOk P w K mg base CX0 129 f fd ["_law_script"] (spLaw K Pt) := by
  have c1 := c.d
  obtain ⟨d0, D0⟩ := c1.def_ 0 rfl
  have F0 := fun_of (st := sDef) D0
  obtain ⟨d1, D1⟩ := c1.def_ 1 rfl
  have F1 := fun_of (st := sFO) D1
  obtain ⟨d2, D2⟩ := c1.def_ 2 rfl
  have F2 := fun_of (st := sChk) D2
  obtain ⟨d3, D3⟩ := c1.def_ 3 rfl
  have F3 := fun_of (st := sCo) D3
  obtain ⟨d4, D4⟩ := c1.def_ 4 rfl
  have F4 := fun_of (st := sWp) D4
  obtain ⟨d5, D5⟩ := c1.def_ 5 rfl
  have F5 := fun_of (st := sTf) D5
  obtain ⟨d6, D6⟩ := c1.def_ 6 rfl
  have F6 := fun_of (st := sTr) D6
  obtain ⟨d7, D7⟩ := c1.def_ 7 rfl
  have F7 := fun_of (st := sNv) D7
  obtain ⟨d8, D8⟩ := c1.def_ 8 rfl
  have F8 := fun_of (st := sNw) D8
  obtain ⟨d9, D9⟩ := c1.def_ 9 rfl
  have F9 := fun_of (st := sFL) D9
  obtain ⟨d10, D10⟩ := c1.def_ 10 rfl
  have F10 := fun_of (st := sAI) D10
  obtain ⟨d11, D11⟩ := c1.def_ 11 rfl
  have F11 := fun_of (st := sDraw) D11
  obtain ⟨d12, D12⟩ := c1.def_ 12 rfl
  have F12 := fun_of (st := sPick) D12
  obtain ⟨d13, D13⟩ := c1.def_ 13 rfl
  have F13 := fun_of (st := sTb) D13
  obtain ⟨d14, D14⟩ := c1.def_ 14 rfl
  have F14 := fun_of (st := sPt) D14
  obtain ⟨d15, D15⟩ := c1.def_ 15 rfl
  have F15 := fun_of (st := sFd) D15
  obtain ⟨d16, D16⟩ := c1.def_ 16 rfl
  have F16 := fun_of (st := sGr) D16
  obtain ⟨d17, D17⟩ := c1.def_ 17 rfl
  have F17 := fun_of (st := sCn) D17
  obtain ⟨d18, D18⟩ := c1.def_ 18 rfl
  have F18 := fun_of (st := sSp) D18
  obtain ⟨d19, D19⟩ := c1.def_ 19 rfl
  have F19 := fun_of (st := sPr) D19
  obtain ⟨d20, D20⟩ := c1.def_ 20 rfl
  have F20 := fun_of (st := sMd) D20
  obtain ⟨d21, D21⟩ := c1.def_ 21 rfl
  have F21 := fun_of (st := sMp) D21
  obtain ⟨d22, D22⟩ := c1.def_ 22 rfl
  have F22 := fun_of (st := sNd) D22
  obtain ⟨d23, D23⟩ := c1.def_ 23 rfl
  have F23 := fun_of (st := sBl) D23
  obtain ⟨d24, D24⟩ := c1.def_ 24 rfl
  have F24 := fun_of (st := sMo) D24
  obtain ⟨d25, D25⟩ := c1.def_ 25 rfl
  have F25 := fun_of (st := sIp) D25
  obtain ⟨d26, D26⟩ := c1.def_ 26 rfl
  have F26 := fun_of (st := sIs) D26
  obtain ⟨d27, D27⟩ := c1.def_ 27 rfl
  have F27 := fun_of (st := sRt) D27
  obtain ⟨d28, D28⟩ := c1.def_ 28 rfl
  have F28 := fun_of (st := sAc) D28
  obtain ⟨d29, D29⟩ := c1.def_ 29 rfl
  have F29 := fun_of (st := sBd) D29
  obtain ⟨d30, D30⟩ := c1.def_ 30 rfl
  have F30 := fun_of (st := sCa) D30
  obtain ⟨d31, D31⟩ := c1.def_ 31 rfl
  have F31 := fun_of (st := sIb) D31
  obtain ⟨d32, D32⟩ := c1.def_ 32 rfl
  have F32 := fun_of (st := sEn) D32
  obtain ⟨d33, D33⟩ := c1.def_ 33 rfl
  have F33 := fun_of (st := sLaw) D33
  obtain ⟨d34, D34⟩ := c1.def_ 34 rfl
  have F34 := fun_of (st := sNI) D34
  obtain ⟨d35, D35⟩ := c1.def_ 35 rfl
  have F35 := fun_of (st := sNG) D35
  obtain ⟨d36, D36⟩ := c1.def_ 36 rfl
  have F36 := fun_of (st := sNS) D36
  obtain ⟨d37, D37⟩ := c1.def_ 37 rfl
  have F37 := fun_of (st := sIn1) D37
  obtain ⟨d38, D38⟩ := c1.def_ 38 rfl
  have F38 := fun_of (st := sIn2) D38
  obtain ⟨d39, D39⟩ := c1.def_ 39 rfl
  have F39 := fun_of (st := sIn3) D39
  obtain ⟨d40, D40⟩ := c1.def_ 40 rfl
  have F40 := fun_of (st := sE0) D40
  obtain ⟨d41, D41⟩ := c1.def_ 41 rfl
  have F41 := fun_of (st := sE1) D41
  obtain ⟨d42, D42⟩ := c1.def_ 42 rfl
  have F42 := fun_of (st := sE2) D42
  obtain ⟨d43, D43⟩ := c1.def_ 43 rfl
  have F43 := fun_of (st := sE3) D43
  obtain ⟨d44, D44⟩ := c1.def_ 44 rfl
  have F44 := fun_of (st := sBc) D44
  have b0 : Binds K d0 ["name", "mark"] [] := F0.binds fun _ _ _ _ _ _ us hl => match us, hl with | [_, _], _ => rfl
  have b1 : Binds K d1 ["kind"] [] := F1.binds fun _ _ _ _ _ _ us hl => match us, hl with | [_], _ => rfl
  have b2 : Binds K d2 ["thing"] [] := F2.binds fun _ _ _ _ _ _ us hl => match us, hl with | [_], _ => rfl
  have b3 : Binds K d3 ["value"] [] := F3.binds fun _ _ _ _ _ _ us hl => match us, hl with | [_], _ => rfl
  have b4 : Binds K d4 ["node", "parts"] [] := F4.binds fun _ _ _ _ _ _ us hl => match us, hl with | [_, _], _ => rfl
  have b5 : Binds K d5 ["node", "handlers"] [] := F5.binds fun _ _ _ _ _ _ us hl => match us, hl with | [_, _], _ => rfl
  have b6 : Binds K d6 ["node", "handlers"] [] := F6.binds fun _ _ _ _ _ _ us hl => match us, hl with | [_, _], _ => rfl
  have b7 : Binds K d7 ["node", "name", "mark", "handlers"] [] := F7.binds fun _ _ _ _ _ _ us hl => match us, hl with | [_, _, _, _], _ => rfl
  have b8 : Binds K d8 ["node", "name", "handlers"] [] := F8.binds fun _ _ _ _ _ _ us hl => match us, hl with | [_, _, _], _ => rfl
  have b9 : Binds K d9 ["made"] [] := F9.binds fun _ _ _ _ _ _ us hl => match us, hl with | [_], _ => rfl
  have b10 : Binds K d10 ["made"] [] := F10.binds fun _ _ _ _ _ _ us hl => match us, hl with | [_], _ => rfl
  have b11 : Binds K d11 ["_law_stream", "_law_many"] [] := F11.binds fun _ _ _ _ _ _ us hl => match us, hl with | [_, _], _ => rfl
  have b12 : Binds K d12 ["_law_stream", "_law_some"] [] := F12.binds fun _ _ _ _ _ _ us hl => match us, hl with | [_, _], _ => rfl
  have b13 : Binds K d13 [] [] := F13.binds fun _ _ _ _ _ _ us hl => match us, hl with | [], _ => rfl
  have b14 : Binds K d14 [] [] := F14.binds fun _ _ _ _ _ _ us hl => match us, hl with | [], _ => rfl
  have b15 : Binds K d15 ["_law_kind"] [] := F15.binds fun _ _ _ _ _ _ us hl => match us, hl with | [_], _ => rfl
  have b16 : Binds K d16 ["_law_held"] [] := F16.binds fun _ _ _ _ _ _ us hl => match us, hl with | [_], _ => rfl
  have b17 : Binds K d17 [] [] := F17.binds fun _ _ _ _ _ _ us hl => match us, hl with | [], _ => rfl
  have b18 : Binds K d18 ["_law_stream"] [] := F18.binds fun _ _ _ _ _ _ us hl => match us, hl with | [_], _ => rfl
  have b19 : Binds K d19 ["_law_stream", "_law_held", "_law_left", "_law_deep"] [] := F19.binds fun _ _ _ _ _ _ us hl => match us, hl with | [_, _, _, _], _ => rfl
  have b20 : Binds K d20 ["_law_stream", "_law_held", "_law_left", "_law_deep"] [] := F20.binds fun _ _ _ _ _ _ us hl => match us, hl with | [_, _, _, _], _ => rfl
  have b21 : Binds K d21 ["_law_part_here"] [] := F21.binds fun _ _ _ _ _ _ us hl => match us, hl with | [_], _ => rfl
  have b22 : Binds K d22 ["_law_model_here"] [] := F22.binds fun _ _ _ _ _ _ us hl => match us, hl with | [_], _ => rfl
  have b23 : Binds K d23 ["_law_model_here"] [] := F23.binds fun _ _ _ _ _ _ us hl => match us, hl with | [_], _ => rfl
  have b24 : Binds K d24 ["_law_model_here"] [] := F24.binds fun _ _ _ _ _ _ us hl => match us, hl with | [_], _ => rfl
  have b25 : Binds K d25 ["_law_found", "_law_part_here"] [] := F25.binds fun _ _ _ _ _ _ us hl => match us, hl with | [_, _], _ => rfl
  have b26 : Binds K d26 ["_law_node_here", "_law_model_here"] [] := F26.binds fun _ _ _ _ _ _ us hl => match us, hl with | [_, _], _ => rfl
  have b27 : Binds K d27 ["_law_node_here", "_law_way"] [] := F27.binds fun _ _ _ _ _ _ us hl => match us, hl with | [_, _], _ => rfl
  have b28 : Binds K d28 ["_law_node_here", "_law_way", "_law_start", "_law_met"] [] := F28.binds fun _ _ _ _ _ _ us hl => match us, hl with | [_, _, _, _], _ => rfl
  have b29 : Binds K d29 ["_law_way", "_law_start", "_law_met"] [] := F29.binds fun _ _ _ _ _ _ us hl => match us, hl with | [_, _, _], _ => rfl
  have b30 : Binds K d30 ["_law_model_here", "_law_around", "_law_name", "_law_what", "_law_kind"] [] := F30.binds fun _ _ _ _ _ _ us hl => match us, hl with | [_, _, _, _, _], _ => rfl
  have b31 : Binds K d31 ["_law_what", "_law_way"] [] := F31.binds fun _ _ _ _ _ _ us hl => match us, hl with | [_, _], _ => rfl
  have b32 : Binds K d32 ["_law_made", "_law_handlers"] [] := F32.binds fun _ _ _ _ _ _ us hl => match us, hl with | [_, _], _ => rfl
  have b33 : Binds K d33 ["_law_script"] [] := F33.binds fun _ _ _ _ _ _ us hl => match us, hl with | [_], _ => rfl
  have b35 : Binds K d35 ["self", "at"] [] := F35.binds fun _ _ _ _ _ _ us hl => match us, hl with | [_, _], _ => rfl
  have b36 : Binds K d36 ["self", "at", "worth"] [] := F36.binds fun _ _ _ _ _ _ us hl => match us, hl with | [_, _, _], _ => rfl
  have b37 : Binds K d37 ["self", "mantissa", "exponent"] [] := F37.binds fun _ _ _ _ _ _ us hl => match us, hl with | [_, _, _], _ => rfl
  have b38 : Binds K d38 ["self", "number"] [] := F38.binds fun _ _ _ _ _ _ us hl => match us, hl with | [_, _], _ => rfl
  have b39 : Binds K d39 ["self", "numbers"] [] := F39.binds fun _ _ _ _ _ _ us hl => match us, hl with | [_, _], _ => rfl
  have b40 : Binds K d40 ["self", "other"] [] := F40.binds fun _ _ _ _ _ _ us hl => match us, hl with | [_, _], _ => rfl
  have b41 : Binds K d41 ["self", "other"] [] := F41.binds fun _ _ _ _ _ _ us hl => match us, hl with | [_, _], _ => rfl
  have b42 : Binds K d42 ["self", "other"] [] := F42.binds fun _ _ _ _ _ _ us hl => match us, hl with | [_, _], _ => rfl
  have b43 : Binds K d43 ["self", "other"] [] := F43.binds fun _ _ _ _ _ _ us hl => match us, hl with | [_, _], _ => rfl
  have b44 : Binds K d44 ["self", "kind", "name"] [] := F44.binds fun _ _ _ _ _ _ us hl => match us, hl with | [_, _, _], _ => rfl
  have m__default : mg "_default" = some (.ref (He.ga K "_default")) := He.glo_ok X G (c1.fact 25 (f := .glo "_default") rfl)
  have m_fields_of : mg "fields_of" = some (.ref (He.ga K "fields_of")) := He.glo_ok X G (c1.fact 26 (f := .glo "fields_of") rfl)
  have m_check_node : mg "check_node" = some (.ref (He.ga K "check_node")) := He.glo_ok X G (c1.fact 27 (f := .glo "check_node") rfl)
  have m_copied : mg "copied" = some (.ref (He.ga K "copied")) := He.glo_ok X G (c1.fact 28 (f := .glo "copied") rfl)
  have m_with_parts : mg "with_parts" = some (.ref (He.ga K "with_parts")) := He.glo_ok X G (c1.fact 29 (f := .glo "with_parts") rfl)
  have m_transform : mg "transform" = some (.ref (He.ga K "transform")) := He.glo_ok X G (c1.fact 30 (f := .glo "transform") rfl)
  have m__transformed : mg "_transformed" = some (.ref (He.ga K "_transformed")) := He.glo_ok X G (c1.fact 31 (f := .glo "_transformed") rfl)
  have m__new_value : mg "_new_value" = some (.ref (He.ga K "_new_value")) := He.glo_ok X G (c1.fact 32 (f := .glo "_new_value") rfl)
  have m__new_items : mg "_new_items" = some (.ref (He.ga K "_new_items")) := He.glo_ok X G (c1.fact 33 (f := .glo "_new_items") rfl)
  have m__fits_list : mg "_fits_list" = some (.ref (He.ga K "_fits_list")) := He.glo_ok X G (c1.fact 34 (f := .glo "_fits_list") rfl)
  have m__as_items : mg "_as_items" = some (.ref (He.ga K "_as_items")) := He.glo_ok X G (c1.fact 35 (f := .glo "_as_items") rfl)
  have m__law_draw : mg "_law_draw" = some (.ref (He.ga K "_law_draw")) := He.glo_ok X G (c1.fact 36 (f := .glo "_law_draw") rfl)
  have m__law_pick : mg "_law_pick" = some (.ref (He.ga K "_law_pick")) := He.glo_ok X G (c1.fact 37 (f := .glo "_law_pick") rfl)
  have m__law_table : mg "_law_table" = some (.ref (He.ga K "_law_table")) := He.glo_ok X G (c1.fact 38 (f := .glo "_law_table") rfl)
  have m__law_pattern_table : mg "_law_pattern_table" = some (.ref (He.ga K "_law_pattern_table")) := He.glo_ok X G (c1.fact 39 (f := .glo "_law_pattern_table") rfl)
  have m__law_fields : mg "_law_fields" = some (.ref (He.ga K "_law_fields")) := He.glo_ok X G (c1.fact 40 (f := .glo "_law_fields") rfl)
  have m__law_group : mg "_law_group" = some (.ref (He.ga K "_law_group")) := He.glo_ok X G (c1.fact 41 (f := .glo "_law_group") rfl)
  have m__law_constants : mg "_law_constants" = some (.ref (He.ga K "_law_constants")) := He.glo_ok X G (c1.fact 42 (f := .glo "_law_constants") rfl)
  have m__law_spot : mg "_law_spot" = some (.ref (He.ga K "_law_spot")) := He.glo_ok X G (c1.fact 43 (f := .glo "_law_spot") rfl)
  have m__law_part : mg "_law_part" = some (.ref (He.ga K "_law_part")) := He.glo_ok X G (c1.fact 44 (f := .glo "_law_part") rfl)
  have m__law_model : mg "_law_model" = some (.ref (He.ga K "_law_model")) := He.glo_ok X G (c1.fact 45 (f := .glo "_law_model") rfl)
  have m__law_made_part : mg "_law_made_part" = some (.ref (He.ga K "_law_made_part")) := He.glo_ok X G (c1.fact 46 (f := .glo "_law_made_part") rfl)
  have m__law_node : mg "_law_node" = some (.ref (He.ga K "_law_node")) := He.glo_ok X G (c1.fact 47 (f := .glo "_law_node") rfl)
  have m__law_below : mg "_law_below" = some (.ref (He.ga K "_law_below")) := He.glo_ok X G (c1.fact 48 (f := .glo "_law_below") rfl)
  have m__law_models : mg "_law_models" = some (.ref (He.ga K "_law_models")) := He.glo_ok X G (c1.fact 49 (f := .glo "_law_models") rfl)
  have m__law_is_part : mg "_law_is_part" = some (.ref (He.ga K "_law_is_part")) := He.glo_ok X G (c1.fact 50 (f := .glo "_law_is_part") rfl)
  have m__law_is_so : mg "_law_is_so" = some (.ref (He.ga K "_law_is_so")) := He.glo_ok X G (c1.fact 51 (f := .glo "_law_is_so") rfl)
  have m__law_return : mg "_law_return" = some (.ref (He.ga K "_law_return")) := He.glo_ok X G (c1.fact 52 (f := .glo "_law_return") rfl)
  have m__law_acted : mg "_law_acted" = some (.ref (He.ga K "_law_acted")) := He.glo_ok X G (c1.fact 53 (f := .glo "_law_acted") rfl)
  have m__law_bound : mg "_law_bound" = some (.ref (He.ga K "_law_bound")) := He.glo_ok X G (c1.fact 54 (f := .glo "_law_bound") rfl)
  have m__law_calls : mg "_law_calls" = some (.ref (He.ga K "_law_calls")) := He.glo_ok X G (c1.fact 55 (f := .glo "_law_calls") rfl)
  have m__law_is_bad : mg "_law_is_bad" = some (.ref (He.ga K "_law_is_bad")) := He.glo_ok X G (c1.fact 56 (f := .glo "_law_is_bad") rfl)
  have m__law_ended : mg "_law_ended" = some (.ref (He.ga K "_law_ended")) := He.glo_ok X G (c1.fact 57 (f := .glo "_law_ended") rfl)
  have m_law : mg "law" = some (.ref (He.ga K "law")) := He.glo_ok X G (c1.fact 58 (f := .glo "law") rfl)
  have m_Node : mg "Node" = some (.ref (He.ga K "Node")) := He.glo_ok X G (c1.fact 59 (f := .glo "Node") rfl)
  have m_FIELDS : mg "FIELDS" = some (.ref (He.ga K "FIELDS")) := He.glo_ok X G (c1.fact 60 (f := .glo "FIELDS") rfl)
  have m_ATTRIBUTES : mg "ATTRIBUTES" = some (.ref (He.ga K "ATTRIBUTES")) := He.glo_ok X G (c1.fact 61 (f := .glo "ATTRIBUTES") rfl)
  have m_LIST_MARKS : mg "LIST_MARKS" = some (.ref (He.ga K "LIST_MARKS")) := He.glo_ok X G (c1.fact 62 (f := .glo "LIST_MARKS") rfl)
  have m_TreeError : mg "TreeError" = some (.ref (He.ga K "TreeError")) := He.glo_ok X G (c1.fact 63 (f := .glo "TreeError") rfl)
  have m_BadNode : mg "BadNode" = some (.ref (He.ga K "BadNode")) := He.glo_ok X G (c1.fact 64 (f := .glo "BadNode") rfl)
  have m_BadChange : mg "BadChange" = some (.ref (He.ga K "BadChange")) := He.glo_ok X G (c1.fact 65 (f := .glo "BadChange") rfl)
  have m_Dots : mg "Dots" = some (.ref (He.ga K "Dots")) := He.glo_ok X G (c1.fact 66 (f := .glo "Dots") rfl)
  have m_Float : mg "Float" = some (.ref (He.ga K "Float")) := He.glo_ok X G (c1.fact 67 (f := .glo "Float") rfl)
  have m_Imaginary : mg "Imaginary" = some (.ref (He.ga K "Imaginary")) := He.glo_ok X G (c1.fact 68 (f := .glo "Imaginary") rfl)
  have m_Octets : mg "Octets" = some (.ref (He.ga K "Octets")) := He.glo_ok X G (c1.fact 69 (f := .glo "Octets") rfl)
  have z_isinstance : mg "isinstance" = none := He.free_ok X G (c1.fact 70 (f := .free "isinstance") rfl)
  have z_str : mg "str" = none := He.free_ok X G (c1.fact 71 (f := .free "str") rfl)
  have z_tuple : mg "tuple" = none := He.free_ok X G (c1.fact 72 (f := .free "tuple") rfl)
  have z_list : mg "list" = none := He.free_ok X G (c1.fact 73 (f := .free "list") rfl)
  have z_len : mg "len" = none := He.free_ok X G (c1.fact 74 (f := .free "len") rfl)
  have z_zip : mg "zip" = none := He.free_ok X G (c1.fact 75 (f := .free "zip") rfl)
  have z_int : mg "int" = none := He.free_ok X G (c1.fact 76 (f := .free "int") rfl)
  have z_bool : mg "bool" = none := He.free_ok X G (c1.fact 77 (f := .free "bool") rfl)
  have z_range : mg "range" = none := He.free_ok X G (c1.fact 78 (f := .free "range") rfl)
  have z_sum : mg "sum" = none := He.free_ok X G (c1.fact 79 (f := .free "sum") rfl)
  have z_repr : mg "repr" = none := He.free_ok X G (c1.fact 80 (f := .free "repr") rfl)
  have z_dict : mg "dict" = none := He.free_ok X G (c1.fact 81 (f := .free "dict") rfl)
  have z_all : mg "all" = none := He.free_ok X G (c1.fact 82 (f := .free "all") rfl)
  have Z : Blt mg := ⟨z_isinstance, z_str, z_tuple, z_list, z_len, z_zip, z_int, z_bool, z_range, z_sum, z_repr⟩
  have Nf : NodeF K (He.ga K "Node") := ⟨He.cls_ok (c1.fact 1 (f := .cls "Node") rfl), He.noat_ok (c1.fact 2 (f := .noat "Node" "kind") rfl), He.noat_ok (c1.fact 3 (f := .noat "Node" "lineno") rfl), He.noat_ok (c1.fact 4 (f := .noat "Node" "col_offset") rfl), He.noat_ok (c1.fact 5 (f := .noat "Node" "end_lineno") rfl), He.noat_ok (c1.fact 6 (f := .noat "Node" "end_col_offset") rfl), He.noat_ok (c1.fact 7 (f := .noat "Node" "_fields") rfl)⟩
  have M := He.mkr_ok (c1.fact 0 (f := .mkr "Node") rfl)
  obtain ⟨g1, g2, g3⟩ := He.meth_ok (c1.fact 8 (f := .meth "Node" "__getitem__") rfl)
  obtain ⟨s1, s2, s3⟩ := He.meth_ok (c1.fact 9 (f := .meth "Node" "__setitem__") rfl)
  obtain ⟨p1, p2, p3⟩ := He.meth_ok (c1.fact 21 (f := .meth "Dots" "__eq__") rfl)
  obtain ⟨q1, q2, q3⟩ := He.meth_ok (c1.fact 22 (f := .meth "Float" "__eq__") rfl)
  obtain ⟨r1, r2, r3⟩ := He.meth_ok (c1.fact 23 (f := .meth "Imaginary" "__eq__") rfl)
  obtain ⟨t1, t2, t3⟩ := He.meth_ok (c1.fact 24 (f := .meth "Octets" "__eq__") rfl)
  unfold exL at e
  simp only [Bool.and_eq_true] at e
  obtain ⟨x_fld, x_lm, x_at, x_get, x_cN, x_kNN, x_kNl, x_nos, x_fnG, x_xN, x_kN, x_sN, x_tN, x_v0, x_v1, x_v2, x_v3, x_tyN, x_mk0, x_in0, x_kp0, x_bd, x_q0, x_q1, x_q2, x_q3, x_oex, x_sa, x_sB, x_tB, x_kB, x_iB, x_tI, x_n0, x_n1, x_xf, x_exc, x_cl, x_bn, x_bt, x_nn, x_kb⟩ := e
  have gg := x_get
  unfold getB at gg
  simp only [Bool.and_eq_true] at gg
  have kN := clsB_ok x_cN
  have Nc : NodeC K (He.ga K "Node") _ _ := ⟨Nf.cl, x_nos, g1, x_fnG, g2, s1, s2⟩
  have NI : NodeI K (He.ga K "Node") := ⟨Nf.cl, kN.1, He.eqO_ok gg.1, of_decide_eq_true gg.2, kN.2, of_decide_eq_true x_kNN, of_decide_eq_true x_kNl⟩
  have EN : ErrC K mg "BadNode" (He.ga K "BadNode") := ⟨m_BadNode, x_xN, x_kN, of_decide_eq_true x_sN, of_decide_eq_true x_tN⟩
  have BF : BadC K mg (He.ga K "TreeError") (He.ga K "BadChange") (He.ga K "BadNode") (He.ma K (He.ga K "BadChange") "__init__") := ⟨m_BadChange, m_TreeError, m_BadNode, ⟨oexB_ok x_oex, He.eqO_ok x_sa, of_decide_eq_true x_sB, of_decide_eq_true x_tB, x_kB⟩, He.eqO_ok x_iB, of_decide_eq_true x_tI, He.eqO_ok x_n0, He.eqO_ok x_n1, xfB_ok x_xf, excB_ok x_get x_exc, x_cl⟩
  have EF : EnF K (He.ga K "TreeError") (He.ga K "BadChange") (He.ga K "BadNode") := ⟨of_decide_eq_true x_bn, of_decide_eq_true x_bt, of_decide_eq_true x_nn, of_decide_eq_true x_kb⟩
  have v0 := valB_ok x_v0
  have v1 := valB_ok x_v1
  have v2 := valB_ok x_v2
  have v3 := valB_ok x_v3
  have w0 := eqB_ok x_q0
  have w1 := eqB_ok x_q1
  have w2 := eqB_ok x_q2
  have w3 := eqB_ok x_q3
  have all4 : ∀ {p : Nat → Prop}, p 0 → p 1 → p 2 → p 3 → ∀ j, j < 4 → p j := fun {p} h0 h1 h2 h3 j hj => by
    rcases j with _ | _ | _ | _ | j
    · exact h0
    · exact h1
    · exact h2
    · exact h3
    · omega
  have W : ValI K (He.ga K "Node") (csK K) := ⟨all4 (He.cls_ok (c1.fact 13 (f := .cls "Dots") rfl)) (He.cls_ok (c1.fact 14 (f := .cls "Float") rfl)) (He.cls_ok (c1.fact 15 (f := .cls "Imaginary") rfl)) (He.cls_ok (c1.fact 16 (f := .cls "Octets") rfl)),
    all4 v0.1.1 v1.1.1 v2.1.1 v3.1.1, He.eqO_ok gg.1, of_decide_eq_true gg.2, all4 v0.1.2 v1.1.2 v2.1.2 v3.1.2, all4 (p := fun j => ∀ T ∈ seqTs, PySem.W.kitOne K (.ref (csK K j)) T = some false) v0.2.1 v1.2.1 v2.2.1 v3.2.1, all4 (p := fun j => PySem.W.kitOne K (.ref (csK K j)) (.ref (He.ga K "Node")) = some false) v0.2.2.1 v1.2.2.1 v2.2.2.1 v3.2.2.1, fun t ht => of_decide_eq_true (List.all_eq_true.mp x_tyN t ht), all4 (p := fun j => csK K j ≠ (He.ga K "Node")) v0.2.2.2 v1.2.2.2 v2.2.2.2 v3.2.2.2⟩
  have EQ : EqF K mg (He.ga K "Node") (csK K) (fE K) := ⟨all4 (p := fun j => PySem.W.findIn K (.ref (csK K j)) "__eq__" = some (some (.ref (fE K j)))) p1 q1 r1 t1, all4 (p := fun j => PySem.W.isFn K (.ref (fE K j)) = true) p2 q2 r2 t2,
    all4 (p := fun j => PySem.W.kitOne K (.ref (csK K j)) (.ref (csK K j)) = some true) w0.1 w1.1 w2.1 w3.1, all4 (p := fun j => PySem.W.kitOne K (.ref (csK K j)) (.type "bool") = some false) w0.2.1 w1.2.1 w2.2.1 w3.2.1, all4 (p := fun j => PySem.W.kitOne K (.ref (csK K j)) (.type "str") = some false) w0.2.2 w1.2.2 w2.2.2 w3.2.2,
    m_Dots, m_Float, m_Imaginary, m_Octets, He.noat_ok (c1.fact 17 (f := .noat "Float" "mantissa") rfl), He.noat_ok (c1.fact 18 (f := .noat "Float" "exponent") rfl), He.noat_ok (c1.fact 19 (f := .noat "Imaginary" "number") rfl), He.noat_ok (c1.fact 20 (f := .noat "Octets" "numbers") rfl)⟩
  obtain ⟨es, n, hKD⟩ := c.tab 0 (t := ((fun K => He.ga K "FIELDS"), kysF)) rfl
  have T : Tabs K w mg (He.ga K "FIELDS") (He.ga K "ATTRIBUTES") es n := ⟨hKD, m_FIELDS, x_fld, m_ATTRIBUTES, fun H => He.tupB_ok x_at H⟩
  have hM : ∀ H, SqT K H (He.ga K "LIST_MARKS") (marks.map V.str) := fun H => He.tupB_ok x_lm H
  have el := hfa.symm.trans m_law
  cases el
  obtain ⟨cb, Pt, htab, hPt, hcode⟩ := bdB_ok x_bd
  have hc : d29.code = .ref cb := by
    obtain ⟨oc, od, kV, doc, pm, an, cdv, ct, osl, z, lk, hcd⟩ := F29.ex
    exact hcode _ _ lk (by rw [z])
  refine ⟨d33, cb, Pt, htab, hPt, fun s u => (FunD.bindsA (ps := ["_law_script"]) D33 fun _ _ _ _ _ _ us hl => match us, hl with | [_], _ => rfl) s [u] rfl, fun base _ _ TB => ?_⟩
  have fo := ok_fo (P := P) (w := w) (base := base) F1 T Z
  have I0 := ok_ini (n := 0) (k := 1) F34 T Z Nf fo b1 D1.kp m_fields_of b0 D0.kp m__default (Nat.le_refl 1) (no_def (C := (He.ga K "Node")))
  have Df := ok_def F0 m_LIST_MARKS hM M m_Node I0
  have I1 := ok_ini (n := 1) (k := 4) F34 T Z Nf fo b1 D1.kp m_fields_of b0 D0.kp m__default (by decide) Df
  have IA := ok_iniA (n := 1) (k := 4) F34 T Z Nf fo b1 D1.kp m_fields_of b0 D0.kp m__default (by decide) Df
  have get := ok_get (P := P) (w := w) (mg := mg) (base := base) F35 Nf.cl Nf.n6 Z.isI Z.st
  have set := ok_set (P := P) (w := w) (mg := mg) (base := base) F36 Nf.cl Nf.n6 Z.isI Z.st
  have dr := ok_draw (P := P) (w := w) (mg := mg) (base := base) F11 Z.it
  have pk := ok_pick F12 dr b11 D11.kp m__law_draw Z.ln
  have pt := ok_pt (P := P) (w := w) (mg := mg) (base := base) F14
  have tb := ok_tb F13 pt b14 D14.kp m__law_pattern_table
  have fd := ok_fd F15 Z tb b13 D13.kp m__law_table
  have gr := ok_gr (P := P) (w := w) (mg := mg) (base := base) F16
  have sp := ok_sp F18 dr b11 D11.kp m__law_draw
  have in1 := ok_in1 (P := P) (w := w) (mg := mg) (base := base) (Cs := csK K) F37 (W.cl 1 (by decide)) (He.noat_ok (c1.fact 17 (f := .noat "Float" "mantissa") rfl)) (He.noat_ok (c1.fact 18 (f := .noat "Float" "exponent") rfl))
  have in2 := ok_in2 (P := P) (w := w) (mg := mg) (base := base) (Cs := csK K) F38 (W.cl 2 (by decide)) (He.noat_ok (c1.fact 19 (f := .noat "Imaginary" "number") rfl))
  have in3 := ok_in3 (P := P) (w := w) (mg := mg) (base := base) (Cs := csK K) F39 (W.cl 3 (by decide)) (He.noat_ok (c1.fact 20 (f := .noat "Octets" "numbers") rfl))
  have MK : Mks P w K mg base (csK K) (fiK K) (fdK d37 d38 d39) := ⟨m_Dots, m_Float, m_Imaginary, m_Octets, x_mk0, He.eqO_ok x_in0, v0.1.2, x_kp0, He.mkr_ok (c1.fact 10 (f := .mkr "Float") rfl), He.mkr_ok (c1.fact 11 (f := .mkr "Imaginary") rfl), He.mkr_ok (c1.fact 12 (f := .mkr "Octets") rfl), in1, in2, in3, b37, b38, b39⟩
  have eq0 := ok_e0 (P := P) (w := w) (mg := mg) (base := base) F40 Z W EQ
  have eq1 := ok_e1 (P := P) (w := w) (mg := mg) (base := base) F41 Z W EQ
  have eq2 := ok_e2 (f1 := 0) F42 Z W EQ eq1 b41
  have eq3 := ok_e3 (P := P) (w := w) (mg := mg) (base := base) F43 Z W EQ
  have ES : Eqs P w K mg base (He.ga K "Node") (csK K) (fE K) (dE d40 d41 d42 d43) := ⟨EQ, all4 (p := fun j => FnOk P w K mg base CX0 2 (fE K j) (dE d40 d41 d42 d43 j) ["self", "other"] (spEq (RS (csK K) j))) (eq0.mono (by decide)) (eq1.mono (by decide)) eq2 eq3,
    all4 (p := fun j => Binds K (dE d40 d41 d42 d43 j) ["self", "other"] []) b40 b41 b42 b43⟩
  have cn := ok_cn F17 MK
  have DD : DDefs P w K mg base (csK K) _ _ _ _ _ _ := ⟨dr, b11, D11.kp, m__law_draw, pk, b12, D12.kp, m__law_pick, cn, b17, D17.kp, m__law_constants⟩
  have MD : MDefs P w K mg base _ _ _ _ _ _ _ _ := ⟨pk, b12, D12.kp, m__law_pick, sp, b18, D18.kp, m__law_spot, gr, b16, D16.kp, m__law_group, fd, b15, D15.kp, m__law_fields⟩
  have md := ok_whole (ok_draws F19 b19 m__law_part F20 b20 m__law_model Z DD MD 32).2
  have nod := (ok_mades F22 b22 m__law_node F21 b21 m__law_made_part Z z_dict W NI Nc M m_Node IA set b36 fd b15 D15.kp m__law_fields 33).2
  have mo : ∀ (nd : Addr → Option Addr) (n : Nat), FnOk P w K mg base CX0 (1 + n) _ _ ["_law_model_here"] (spMo (csK K) nd n) := fun nd n => by
    induction n with
    | zero => exact no_mo
    | succ n ih => exact ok_mo (Nat.le_add_right 1 n) F24 (ok_bl (nd := nd) F23 Z z_dict W) b23 D23.kp m__law_below ih b24 m__law_models
  have moX : FnOk P w K mg base CX0 36 _ _ ["_law_model_here"] (spMoX (csK K) 34) := (fnOk_ex fun nd => mo nd 34).mono (by decide)
  have iso : ∀ n : Nat, FnOk P w K mg base CX0 (3 + 2 * n) _ _ ["_law_found", "_law_part_here"] (spIp (He.ga K "Node") (csK K) n) ∧ FnOk P w K mg base CX0 (4 + 2 * n) _ _ ["_law_node_here", "_law_model_here"] (spIs (He.ga K "Node") (csK K) n) := fun n => by
    induction n with
    | zero => exact ⟨no_ip, ok_is F26 Z z_all Nf Nc get b35 fd b15 D15.kp m__law_fields (Nat.le_refl 3) no_ip b25 D25.kp m__law_is_part⟩
    | succ n ih =>
      have ip : FnOk P w K mg base CX0 (4 + 2 * n + 1) _ _ ["_law_found", "_law_part_here"] (spIp (He.ga K "Node") (csK K) (n + 1)) := ok_ip F25 b25 m__law_is_part Z z_dict z_all W NI m_Node ES (show 2 ≤ 4 + 2 * n by omega) (ih.1.mono (by omega)) ih.2 b26 D26.kp m__law_is_so
      have ise := ok_is F26 Z z_all Nf Nc get b35 fd b15 D15.kp m__law_fields (show 3 ≤ 4 + 2 * n + 1 by omega) ip b25 D25.kp m__law_is_part
      exact ⟨ip.mono (by omega), ise.mono (by omega)⟩
  have is32 : FnOk P w K mg base CX0 100 _ _ ["_law_node_here", "_law_model_here"] (spIs (He.ga K "Node") (csK K) 32) := (iso 32).2.mono (by decide)
  have ca : ∀ n : Nat, FnOk P w K mg base CX0 (3 + n) _ _ ["_law_model_here", "_law_around", "_law_name", "_law_what", "_law_kind"] (spCa (csK K) n) := fun n => by
    induction n with
    | zero => exact no_ca
    | succ n ih => exact ok_ca F30 b30 m__law_calls Z z_dict W fd b15 D15.kp m__law_fields (Nat.le_add_right 3 n) ih
  have ca33 : FnOk P w K mg base CX0 37 _ _ ["_law_model_here", "_law_around", "_law_name", "_law_what", "_law_kind"] (spCa (csK K) 33) := (ca 33).mono (by decide)
  have rt := ok_rt F27 Z W NI Nf MK M m_Node I1
  have ac := ok_ac F28 Z Nf rt b27 D27.kp m__law_return
  have bd := ok_bd (P := P) (w := w) (mg := mg) (base := base) F29 hc TB
  have wp := ok_wp F4 Nf M m_Node I1
  have co := ok_co (P := P) (w := w) (mg := mg) (base := base) F3 Z m_Node
  have ib := ok_ib (P := P) (w := w) (mg := mg) (base := base) F31
  have fl := ok_fl (P := P) (w := w) (mg := mg) (base := base) F9 Z z_all NI m_Node (W.nt _ (.head _))
  have ai := ok_ai (P := P) (w := w) (mg := mg) (base := base) F10 Z NI
  have bc := ok_bc (P := P) (w := w) (mg := mg) (base := base) F44 BF
  have tr := ok_trs F6 F7 F8 b6 b7 b8 m__transformed m__new_value m__new_items T Z W NI Nf Nc m_Node get b35 fl b9 D9.kp m__fits_list ai b10 D10.kp m__as_items co b3 D3.kp m_copied BF bc b44 wp b4 D4.kp m_with_parts ac b28 D28.kp m__law_acted 33
  have ck := ok_ck (P := P) (w := w) (mg := mg) (base := base) F2 Z NI m_Node EN
  have tf := ok_tf (n := 33) (k := 108) F5 Z W NI Nf m_Node ck b2 D2.kp m_check_node BF bc b44 (by decide) tr b6 D6.kp m__transformed
  have en := ok_en F32 Z BF EF tf b5 D5.kp m_transform
  have L : LawD P w K mg base (He.ga K "Node") (csK K) (fiK K) (fdK d37 d38 d39) Pt _ _ _ _ _ _ _ _ _ _ _ _ _ _ _ _ _ _ _ _ := ⟨dr, b11, D11.kp, m__law_draw, md, b20, D20.kp, m__law_model, nod, b22, D22.kp, m__law_node, moX, b24, D24.kp, m__law_models, pk, b12, D12.kp, m__law_pick, bd, b29, D29.kp, m__law_bound, ca33, b30, D30.kp, m__law_calls, ib, b31, D31.kp, m__law_is_bad, en, b32, D32.kp, m__law_ended, is32, b26, D26.kp, m__law_is_so, MK⟩
  exact ok_law F33 Z W NI L
end Q8

namespace Q8
open PySem PySem.Spec PyProof.Rows L2 LamX
def exM (K : PySem.W.Frag) : Bool := exL K && (match PySem.W.tabIn K "_law_bound" with
  | some q => PySem.W.codeHdIn K q.1 q.2 && decide (He.cT K ("_law_bound", none) = q)
  | none => false)
theorem law_at {l : PySem.W.OpenLaw} {w : World} {K : PySem.W.Frag} {mg : Str → Option Value} {fa : Addr} {h : Heap} (KX : K.In h) (G : h.Ns mainGlobals mg) (hmg : mg ("law" : Str) = some (.ref fa)) (c : He.SaysX faL fnL tsL [("_law_bound", none)] exM w h K) : LawAtS l w K CX0 129 63 "_law_script" mg fa h := by
  have m := c.more
  unfold exM at m
  obtain ⟨e, m2⟩ := Bool.and_eq_true_iff.mp m
  obtain ⟨fd, cb, Pt, ht, nT, hb, hF⟩ := facts (P := l.prog) KX G hmg c.t e
  rw [ht] at m2
  obtain ⟨hd, eq⟩ := Bool.and_eq_true_iff.mp m2
  have eq := of_decide_eq_true eq
  have emp := c.empty ("_law_bound", none) (List.mem_singleton.mpr rfl)
  rw [eq] at emp
  have one : ∀ {p : Addr × Addr → Prop}, p (cb, Pt) → ∀ z ∈ [(cb, Pt)], p z := fun h z hz => by
    rw [List.mem_singleton.mp hz]; exact h
  exact ⟨fd, [(cb, Pt)], spLaw K Pt, one emp, one nT, one (PySem.W.codeHd_of_K KX hd), hb, fun H a ns hl _ hH hS => ⟨a, ns, rfl, hS, hl, TabS.nil (hH (cb, Pt) (List.mem_singleton.mpr rfl)), fun _ => rfl⟩, fun base h1 h2 h3 => hF base h1 h2 (h3 (cb, Pt) (List.mem_singleton.mpr rfl))⟩
theorem room_law : Room 129 callerA := ⟨rfl, by decide, by decide⟩
end Q8

noncomputable section
namespace HDR
open PySem PySem.W PySem.Calls PyProof.Rows HandSHeadRun
abbrev xtB (s : Shared) : Bool := xlAt qv [] s && recOk R.toRowW.records s
/-- what is looked at behind the top, with a Hook's own look -/
abbrev LookEq (H : Hook) (ob : SharedT → H.α) (w : World) : Prop := ∀ os : OsState, (goF (stepQ (denQ tabQ) PG w) 11 (some (.ref 6)) 4000 (sf w os) thB).map (fun s => (looksF PG (boot_heap w.params) s.abs, seenQ qv names (importedModules PG.main.body) xtB s.abs, ob s)) = some (true, openGood qv names, H.val w)
theorem left_mine {H : Hook} {ob : SharedT → H.α} (ho : ∀ s, ob s = H.obs s.abs) (run : ∀ w, LookEq H ob w) (e : opening PG = plainProg PG.main.scope.names) (f : ∀ s, fenceModules? PG s = some s) : LeftO PG qv names xtB H.obs H.val 8000 true := fun w => by
  obtain ⟨⟨h, gs, dr, tk, os⟩, a, a2⟩ := Option.map_eq_some_iff.mp (boot_open (N := 8000) e (by decide) f w)
  obtain ⟨rfl, rfl, rfl, rfl⟩ : h = boot_heap w.params ∧ gs = Array.mk [] ∧ dr = boot_drawn ∧ tk = boot_toks := by simpa using a2
  obtain ⟨z, hz, hv⟩ := Option.map_eq_some_iff.mp (run w os)
  obtain ⟨l1, l2, l3⟩ : _ ∧ _ ∧ _ := by simpa only [Prod.mk.injEq] using hv
  have t := topRun_mono (8000 - (12 + (1 + (3010 + 4000)))) _ _ _ _ (whole hz)
  rw [show 12 + (1 + (3010 + 4000)) + (8000 - (12 + (1 + (3010 + 4000)))) = 8000 from rfl] at t
  have l1 : (staticsOk (importedModules PG.main.body) (boot_heap w.params) z.abs.heap && namesBound PG z.abs.heap && gensDone z.abs && laidKept (boot_heap w.params) z.abs.heap) = true := l1
  have top : topFrom treeTable PG w 8000 ⟨boot_heap w.params, Array.mk [], boot_drawn, boot_toks, os⟩ = some z.abs := by
    unfold topFrom
    dsimp only
    rw [boot_ns]
    show (topRun treeTable PG w (boot_heap w.params).objs.size (bootAnn w) 8000 (bootS w os) (topStub PG)).bind _ = _
    rw [sizeB, annB, t]
    show (match staticsOk (importedModules PG.main.body) (boot_heap w.params) z.abs.heap && namesBound PG z.abs.heap && gensDone z.abs && laidKept (boot_heap w.params) z.abs.heap with | true => some z.abs | false => none) = _
    rw [l1]
  unfold openEnds
  rw [a]
  show (topFrom treeTable PG w 8000 _).map _ = _
  rw [top]
  refine congrArg some (Prod.ext ?_ ?_)
  · show openSeen qv names (importedModules PG.main.body) xtB true z.abs = openGood qv names
    rw [seenQ_eq]
    exact l2
  · show H.obs z.abs = H.val w
    rw [← ho]
    exact l3
theorem head_mine {H : Hook} {ob : SharedT → H.α} {d : DefRec} {kwd : List (PySem.Str × PySem.Expr)} (ho : ∀ s, ob s = H.obs s.abs) (run : ∀ w, LookEq H ob w) (e : opening PG = plainProg PG.main.scope.names) (f : ∀ s, fenceModules? PG s = some s)
    (hdef : defOf qv R.name = some (d, kwd)) (hp : PG.theDef R.name = some (d.params, d.body, d.scope)) (hk : kwWritten? d.params.kwonlyargs d.params.kw_defaults = some kwd)
    (hwr : (!R.writes || R.records.isEmpty) = true) (k1 : R.wellSaid = true) (ok : (chainsOk qv && opensWell PG && (frees R.toRowW && R.within.isEmpty)) = true) (hb : PG.bare) (hw : R.toRowW.promised)
    (call : WalkO qv names (XL qv []) H.says R.toRowW d kwd fun f vs => PySem.call f vs) : R.Holds :=
  holds_open (r := R) (q := qv) (loose := names) (XP := XL qv []) (YP := H.says) (d := d) (kwd := kwd) (left_mine ho run e f) H.of H.keeps (fun s z => xl_of s (Bool.and_eq_true_iff.mp z).1) XL.keeps hdef hp hk (fun s z => recFacts_of (Bool.and_eq_true_iff.mp z).2) hwr k1 ok hb hw call
/-- what stands at the first places: taken as the written part -/
def asR : List Addr := List.range 1200
abbrev tfL : List He.Defn := [("_law_bound", none)]
def obT (g : Addr → Option Obj) : He.AlT := He.obsT Q8.faL Q8.fnL Q8.tsL (He.frT g asR)
def obE (g : Addr → Option Obj) : Bool := Q8.exM (He.frT g asR) && He.tabsB g tfL (He.frT g asR)
abbrev SaysK (w : World) (h : Heap) (K : PySem.W.Frag) : Prop := He.SaysX Q8.faL Q8.fnL Q8.tsL tfL Q8.exM w h K
theorem says_of {w : World} {h : Heap} (e1 : obT h.get? = He.valT Q8.fnL Q8.tsL w) (e2 : obE h.get? = true) : SaysK w h (He.frT h.get? asR) := by
  have both := Bool.and_eq_true_iff.mp e2
  have per : ∀ p ∈ tfL, PySem.W.codeHdIn (He.frT h.get? asR) (He.cT (He.frT h.get? asR) p).1 (He.cT (He.frT h.get? asR) p).2 = true ∧ ∃ ob, h.get? (He.cT (He.frT h.get? asR) p).2 = some ob ∧ He.emptyTab ob = true := fun p hp => by
    have z := Bool.and_eq_true_iff.mp (List.all_eq_true.mp both.2 p hp)
    have z2 := z.2
    split at z2
    · rename_i ob hob
      exact ⟨z.1, ob, hob, z2⟩
    · cases z2
  refine { t := e1, more := both.1, hd := fun p hp => (per p hp).1, out := fun p hp => ?_, empty := fun p hp => ?_ }
  · obtain ⟨_, ob, hob, te⟩ := per p hp
    exact He.frT_none hob te
  · obtain ⟨_, ob, hob, te⟩ := per p hp
    rw [hob, He.emptyTab_eq te]
def saysK (w : World) (h : Heap) : Prop := ∃ K : PySem.W.Frag, K.In h ∧ SaysK w h K
def HK : Hook := by
  refine { α := He.AlT × Bool, obs := fun s => (obT s.heap.get?, obE s.heap.get?), val := fun w => (He.valT Q8.fnL Q8.tsL w, true), says := saysK, of := ?_, keeps := ?_ }
  · intro w s e
    have e1 := congrArg Prod.fst e
    have e2 := congrArg Prod.snd e
    exact ⟨_, He.frT_in, says_of e1 e2⟩
  · intro w h h' hs keep
    obtain ⟨K, KX, c⟩ := hs
    refine ⟨K, PySem.W.Frag.In.keeps KX keep, { t := c.t, more := c.more, hd := c.hd, out := c.out, empty := ?_ }⟩
    intro p hp
    exact keep _ _ (c.empty p hp)
def obK (s : SharedT) : He.AlT × Bool := (obT (getT s), obE (getT s))
theorem obK_eq (s : SharedT) : obK s = HK.obs s.abs := by
  have e : getT s = s.abs.heap.get? := funext (getT_eq s)
  unfold obK
  rw [e]
  rfl
theorem opt3 {α β γ δ ε : Type} {o : Option α} {f : α → β} {g : α → γ} {k : α → δ × ε} {b : β} {c : γ} {d : δ} {e : ε} (h1 : o.map (fun s => (f s, g s)) = some (b, c)) (h2 : o.map (fun s => (k s).1) = some d) (h3 : o.map (fun s => (k s).2) = some e) : o.map (fun s => (f s, g s, k s)) = some (b, c, d, e) := by
  cases o with
  | none => cases h1
  | some s =>
    have e1 := Option.some.inj h1
    have e2 := Option.some.inj h2
    have e3 := Option.some.inj h3
    have e4 : k s = (d, e) := Prod.ext e2 e3
    have e5 : f s = b := congrArg (·.1) e1
    have e6 : g s = c := congrArg (·.2) e1
    show some (f s, g s, k s) = _
    rw [e4, e5, e6]
set_option maxHeartbeats 0 in
theorem run1f (w : World) (os : OsState) : (goF (stepQ (denQ tabQ) PG (w.withFollow "special-get-raises" false)) 11 (some (.ref 6)) 4000 (sf (w.withFollow "special-get-raises" false) os) thB).map (fun s => (looksF PG (boot_heap (w.withFollow "special-get-raises" false).params) s.abs, seenQ qv names (importedModules PG.main.body) xtB s.abs)) = some (true, openGood qv names) := by kernel_rfl
set_option maxHeartbeats 0 in
theorem run2f (w : World) (os : OsState) : (goF (stepQ (denQ tabQ) PG (w.withFollow "special-get-raises" false)) 11 (some (.ref 6)) 4000 (sf (w.withFollow "special-get-raises" false) os) thB).map (fun s => obT (getT s)) = some (He.valT Q8.fnL Q8.tsL (w.withFollow "special-get-raises" false)) := by kernel_rfl
set_option maxHeartbeats 0 in
theorem run3f (w : World) (os : OsState) : (goF (stepQ (denQ tabQ) PG (w.withFollow "special-get-raises" false)) 11 (some (.ref 6)) 4000 (sf (w.withFollow "special-get-raises" false) os) thB).map (fun s => obE (getT s)) = some true := by kernel_rfl
set_option maxHeartbeats 0 in
theorem run1t (w : World) (os : OsState) : (goF (stepQ (denQ tabQ) PG (w.withFollow "special-get-raises" true)) 11 (some (.ref 6)) 4000 (sf (w.withFollow "special-get-raises" true) os) thB).map (fun s => (looksF PG (boot_heap (w.withFollow "special-get-raises" true).params) s.abs, seenQ qv names (importedModules PG.main.body) xtB s.abs)) = some (true, openGood qv names) := by kernel_rfl
set_option maxHeartbeats 0 in
theorem run2t (w : World) (os : OsState) : (goF (stepQ (denQ tabQ) PG (w.withFollow "special-get-raises" true)) 11 (some (.ref 6)) 4000 (sf (w.withFollow "special-get-raises" true) os) thB).map (fun s => obT (getT s)) = some (He.valT Q8.fnL Q8.tsL (w.withFollow "special-get-raises" true)) := by kernel_rfl
set_option maxHeartbeats 0 in
theorem run3t (w : World) (os : OsState) : (goF (stepQ (denQ tabQ) PG (w.withFollow "special-get-raises" true)) 11 (some (.ref 6)) 4000 (sf (w.withFollow "special-get-raises" true) os) thB).map (fun s => obE (getT s)) = some true := by kernel_rfl
theorem runAll (w : World) : LookEq HK obK w := byRow2 "special-get-raises" (P := fun w => LookEq HK obK w) (fun w os => opt3 (run1f w os) (run2f w os) (run3f w os)) (fun w os => opt3 (run1t w os) (run2t w os) (run3t w os)) w
end HDR
open PySem PySem.W PySem.Calls PyProof.Rows
set_option maxHeartbeats 0 in
theorem PySem.Challenge.cw_treequill_k81_transforms_refused_holds : PySem.Challenge.rw_treequill_k81_transforms_refused.Holds := by
  w_on; o_law
  refine HDR.head_mine (H := HDR.HK) (ob := HDR.obK) (d := HandSHeadRun.topDef HDR.PG 52) (kwd := []) HDR.obK_eq HDR.runAll (by kernel_rfl) (fun s => by kernel_rfl) (by kernel_rfl) (by kernel_rfl) (by kernel_rfl) (by rfl) (by first | assumption | decide +kernel) (by decide +kernel) ⟨rfl, rfl, rfl, rfl, rfl, by decide +kernel⟩ ?hw ?hc
  case hw => w_witness2
  case hc =>
    refine LamX.walk_ofTsE (l := PySem.Challenge.rw_treequill_k81_transforms_refused) (n := 63) (k := 129) (CX := fun _ => L2.CX0) (x := "_law_script") rfl (by decide) rfl Q8.room_law ?F (fun _ _ _ _ _ h => h)
    intro w mg fa h Y G hmg
    obtain ⟨K, KX, c⟩ := Y
    exact ⟨K, KX, Q8.law_at KX G hmg c⟩
