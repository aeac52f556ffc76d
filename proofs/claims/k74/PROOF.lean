import PyProof.Rows.All
import Wide.All
import OpenK.AllK
import Wide.FinOn
import KE.KStateDown
import HandS.Head0
import HandS.Head1
import HandS.Head2
import PySem.Challenge.RW_treequill_k74_walk_and_children
import HandS.ForMost
import HandS.Wide
import HandS.Codes
import HandS.OwnEq
import HandS.IsInst
import KE.KEqSeq
import HandS.ForExc
import HandS.Star
import HandS.Zip
import HandS.TupAny
import HandS.MakeKwOnly
import HandS.Walk
import HandS.TryMany
import HandS.RaiseMore
import HandS.Flow
import HandS.Style
import PyProof.DictUpdate
import HandS.Text
import HandS.StrMore
import HandS.ExcIs
import HandS.ExcOwn
import HandS.ListEq
import PyProof.NeKinds
import HandS.ForSpec
import HandS.HeadEnd
import HandS.HeadHook1
import HandS.HeadHook2
import HandS.HeadHook3
import HandS.EndTab
import HandS.HeadHook4
import HandS.HeadWalk
set_option Elab.async false
set_option linter.all false
set_option maxRecDepth 100000
set_option maxHeartbeats 0
set_option pp.maxSteps 40
/-! The top: its first two statements by a run of their own, the state behind them written out. -/
noncomputable section
namespace HDR
open PySem PySem.W PySem.Calls PyProof.Rows
abbrev R : OpenRow := OpenLaw.row PySem.Challenge.rw_treequill_k74_walk_and_children
abbrev PG : Program := R.prog
def lifeF : Life := Life.mk [] [] [] 0 [] [] Bool.false (List.toArray []) [] 0 Bool.false Bool.false Bool.false 0 [2000, 10, 10] Bool.false 0 Bool.true [] [] 0 Bool.false
def o_43 : Params → Obj := (fun P => (Obj.mk (Value.type "tuple") (Option.none) (Data.seq (List.toArray []) 0) (List.toArray [])))
def o_44 : Params → Obj := (fun P => (Obj.mk Value.none (Option.none) (Data.fields (List.toArray [])) (List.toArray [])))
def o_45 : Params → Obj := (fun P => (Obj.mk (Value.type "code") (Option.none) (Data.fields (List.toArray [(Value.str (Str.ofString "<module>") 182), (Value.str (Str.ofString "<module>") 183), (Value.str (Str.ofString "/claim/cut.py") 184), (Value.int 1 0), (Value.int 0 0), (Value.int 0 0), (Value.int 0 0), (Value.int 0 0), (Value.ref 11), (Value.bool Bool.false), (Value.int 181 0), (Value.ref 12), Value.none, Value.none, Value.none, Value.none, (Value.int 185 0), (Value.int 1 0), (Value.str (Str.ofString "/claim/cut.py") 186)])) (List.toArray [])))
def o_46 : Params → Obj := (fun P => (Obj.mk (Value.type "frame") (Option.none) Data.plain (List.toArray [(Option.some (Value.ref 13)), (Option.some (Value.ref 3)), (Option.some (Value.ref 3)), (Option.none), (Option.some (Value.str (Str.ofString "__main__") 164)), (Option.none), (Option.some (Value.ref 0))])))
def o_50 : Params → Obj := (fun P => (Obj.mk (Value.type "tuple") (Option.none) (Data.seq (List.toArray [(Value.str (Str.ofString "*") 187), (Value.str (Str.ofString "+") 188), (Value.str (Str.ofString "?*") 189)]) 0) (List.toArray [])))
def o_51 : Params → Obj := (fun P => (Obj.mk (Value.type "dict") (Option.none) (Data.dict (List.toArray [(DictEntry.mk (PyData.keyHash P (Str.ofString "__name__")) (Value.str (Str.ofString "__name__") 165) (Value.str (Str.ofString "__main__") 164)), (DictEntry.mk (PyData.keyHash P (Str.ofString "__doc__")) (Value.str (Str.ofString "__doc__") 166) Value.none), (DictEntry.mk (PyData.keyHash P (Str.ofString "__package__")) (Value.str (Str.ofString "__package__") 167) Value.none), (DictEntry.mk (PyData.keyHash P (Str.ofString "__loader__")) (Value.str (Str.ofString "__loader__") 168) (Value.builtin "__main__.__loader__#opaque")), (DictEntry.mk (PyData.keyHash P (Str.ofString "__spec__")) (Value.str (Str.ofString "__spec__") 169) Value.none), (DictEntry.mk (PyData.keyHash P (Str.ofString "__annotations__")) (Value.str (Str.ofString "__annotations__") 170) (Value.ref 6)), (DictEntry.mk (PyData.keyHash P (Str.ofString "__builtins__")) (Value.str (Str.ofString "__builtins__") 171) (Value.ref 4)), (DictEntry.mk (PyData.keyHash P (Str.ofString "__file__")) (Value.str (Str.ofString "__file__") 173) (Value.str (Str.ofString "/claim/cut.py") 172)), (DictEntry.mk (PyData.keyHash P (Str.ofString "__cached__")) (Value.str (Str.ofString "__cached__") 174) Value.none), (DictEntry.mk (PyData.keyHash P (Str.ofString "LIST_MARKS")) (Value.str (Str.ofString "LIST_MARKS") 190) (Value.ref 15)), (DictEntry.mk (PyData.keyHash P (Str.ofString "FIELDS")) (Value.str (Str.ofString "FIELDS") 872) (Value.ref 16))]) 11) (List.toArray [])))
def o_52 : Params → Obj := (fun P => (Obj.mk (Value.type "dict") (Option.none) (Data.dict (List.toArray [(DictEntry.mk (PyData.keyHash P (Str.ofString "Module")) (Value.str (Str.ofString "Module") 191) (Value.ref 18)), (DictEntry.mk (PyData.keyHash P (Str.ofString "Expression")) (Value.str (Str.ofString "Expression") 196) (Value.ref 20)), (DictEntry.mk (PyData.keyHash P (Str.ofString "FunctionDef")) (Value.str (Str.ofString "FunctionDef") 201) (Value.ref 26)), (DictEntry.mk (PyData.keyHash P (Str.ofString "AsyncFunctionDef")) (Value.str (Str.ofString "AsyncFunctionDef") 218) (Value.ref 32)), (DictEntry.mk (PyData.keyHash P (Str.ofString "ClassDef")) (Value.str (Str.ofString "ClassDef") 235) (Value.ref 38)), (DictEntry.mk (PyData.keyHash P (Str.ofString "Return")) (Value.str (Str.ofString "Return") 252) (Value.ref 40)), (DictEntry.mk (PyData.keyHash P (Str.ofString "Delete")) (Value.str (Str.ofString "Delete") 257) (Value.ref 42)), (DictEntry.mk (PyData.keyHash P (Str.ofString "Assign")) (Value.str (Str.ofString "Assign") 262) (Value.ref 45)), (DictEntry.mk (PyData.keyHash P (Str.ofString "AugAssign")) (Value.str (Str.ofString "AugAssign") 270) (Value.ref 49)), (DictEntry.mk (PyData.keyHash P (Str.ofString "AnnAssign")) (Value.str (Str.ofString "AnnAssign") 281) (Value.ref 54)), (DictEntry.mk (PyData.keyHash P (Str.ofString "For")) (Value.str (Str.ofString "For") 295) (Value.ref 59)), (DictEntry.mk (PyData.keyHash P (Str.ofString "AsyncFor")) (Value.str (Str.ofString "AsyncFor") 309) (Value.ref 64)), (DictEntry.mk (PyData.keyHash P (Str.ofString "While")) (Value.str (Str.ofString "While") 323) (Value.ref 68)), (DictEntry.mk (PyData.keyHash P (Str.ofString "If")) (Value.str (Str.ofString "If") 334) (Value.ref 72)), (DictEntry.mk (PyData.keyHash P (Str.ofString "With")) (Value.str (Str.ofString "With") 345) (Value.ref 75)), (DictEntry.mk (PyData.keyHash P (Str.ofString "AsyncWith")) (Value.str (Str.ofString "AsyncWith") 353) (Value.ref 78)), (DictEntry.mk (PyData.keyHash P (Str.ofString "Match")) (Value.str (Str.ofString "Match") 361) (Value.ref 81)), (DictEntry.mk (PyData.keyHash P (Str.ofString "Raise")) (Value.str (Str.ofString "Raise") 369) (Value.ref 85)), (DictEntry.mk (PyData.keyHash P (Str.ofString "Assert")) (Value.str (Str.ofString "Assert") 377) (Value.ref 88)), (DictEntry.mk (PyData.keyHash P (Str.ofString "Try")) (Value.str (Str.ofString "Try") 385) (Value.ref 93)), (DictEntry.mk (PyData.keyHash P (Str.ofString "Import")) (Value.str (Str.ofString "Import") 399) (Value.ref 95)), (DictEntry.mk (PyData.keyHash P (Str.ofString "ImportFrom")) (Value.str (Str.ofString "ImportFrom") 404) (Value.ref 99)), (DictEntry.mk (PyData.keyHash P (Str.ofString "Global")) (Value.str (Str.ofString "Global") 415) (Value.ref 101)), (DictEntry.mk (PyData.keyHash P (Str.ofString "Nonlocal")) (Value.str (Str.ofString "Nonlocal") 420) (Value.ref 103)), (DictEntry.mk (PyData.keyHash P (Str.ofString "Expr")) (Value.str (Str.ofString "Expr") 425) (Value.ref 105)), (DictEntry.mk (PyData.keyHash P (Str.ofString "Pass")) (Value.str (Str.ofString "Pass") 430) (Value.ref 106)), (DictEntry.mk (PyData.keyHash P (Str.ofString "Break")) (Value.str (Str.ofString "Break") 432) (Value.ref 107)), (DictEntry.mk (PyData.keyHash P (Str.ofString "Continue")) (Value.str (Str.ofString "Continue") 434) (Value.ref 108)), (DictEntry.mk (PyData.keyHash P (Str.ofString "BoolOp")) (Value.str (Str.ofString "BoolOp") 436) (Value.ref 111)), (DictEntry.mk (PyData.keyHash P (Str.ofString "NamedExpr")) (Value.str (Str.ofString "NamedExpr") 444) (Value.ref 114)), (DictEntry.mk (PyData.keyHash P (Str.ofString "BinOp")) (Value.str (Str.ofString "BinOp") 452) (Value.ref 118)), (DictEntry.mk (PyData.keyHash P (Str.ofString "UnaryOp")) (Value.str (Str.ofString "UnaryOp") 463) (Value.ref 121)), (DictEntry.mk (PyData.keyHash P (Str.ofString "Lambda")) (Value.str (Str.ofString "Lambda") 471) (Value.ref 124)), (DictEntry.mk (PyData.keyHash P (Str.ofString "IfExp")) (Value.str (Str.ofString "IfExp") 479) (Value.ref 128)), (DictEntry.mk (PyData.keyHash P (Str.ofString "Dict")) (Value.str (Str.ofString "Dict") 490) (Value.ref 132)), (DictEntry.mk (PyData.keyHash P (Str.ofString "Set")) (Value.str (Str.ofString "Set") 498) (Value.ref 134)), (DictEntry.mk (PyData.keyHash P (Str.ofString "ListComp")) (Value.str (Str.ofString "ListComp") 503) (Value.ref 137)), (DictEntry.mk (PyData.keyHash P (Str.ofString "SetComp")) (Value.str (Str.ofString "SetComp") 511) (Value.ref 140)), (DictEntry.mk (PyData.keyHash P (Str.ofString "GeneratorExp")) (Value.str (Str.ofString "GeneratorExp") 519) (Value.ref 143)), (DictEntry.mk (PyData.keyHash P (Str.ofString "DictComp")) (Value.str (Str.ofString "DictComp") 527) (Value.ref 147)), (DictEntry.mk (PyData.keyHash P (Str.ofString "Await")) (Value.str (Str.ofString "Await") 538) (Value.ref 149)), (DictEntry.mk (PyData.keyHash P (Str.ofString "Yield")) (Value.str (Str.ofString "Yield") 543) (Value.ref 151)), (DictEntry.mk (PyData.keyHash P (Str.ofString "YieldFrom")) (Value.str (Str.ofString "YieldFrom") 548) (Value.ref 153)), (DictEntry.mk (PyData.keyHash P (Str.ofString "Compare")) (Value.str (Str.ofString "Compare") 553) (Value.ref 157)), (DictEntry.mk (PyData.keyHash P (Str.ofString "Call")) (Value.str (Str.ofString "Call") 564) (Value.ref 161)), (DictEntry.mk (PyData.keyHash P (Str.ofString "FormattedValue")) (Value.str (Str.ofString "FormattedValue") 575) (Value.ref 165)), (DictEntry.mk (PyData.keyHash P (Str.ofString "JoinedStr")) (Value.str (Str.ofString "JoinedStr") 586) (Value.ref 167)), (DictEntry.mk (PyData.keyHash P (Str.ofString "Constant")) (Value.str (Str.ofString "Constant") 591) (Value.ref 169)), (DictEntry.mk (PyData.keyHash P (Str.ofString "Attribute")) (Value.str (Str.ofString "Attribute") 596) (Value.ref 173)), (DictEntry.mk (PyData.keyHash P (Str.ofString "Subscript")) (Value.str (Str.ofString "Subscript") 607) (Value.ref 177)), (DictEntry.mk (PyData.keyHash P (Str.ofString "Starred")) (Value.str (Str.ofString "Starred") 618) (Value.ref 180)), (DictEntry.mk (PyData.keyHash P (Str.ofString "Name")) (Value.str (Str.ofString "Name") 626) (Value.ref 184)), (DictEntry.mk (PyData.keyHash P (Str.ofString "List")) (Value.str (Str.ofString "List") 634) (Value.ref 187)), (DictEntry.mk (PyData.keyHash P (Str.ofString "Tuple")) (Value.str (Str.ofString "Tuple") 642) (Value.ref 190)), (DictEntry.mk (PyData.keyHash P (Str.ofString "Slice")) (Value.str (Str.ofString "Slice") 650) (Value.ref 194)), (DictEntry.mk (PyData.keyHash P (Str.ofString "comprehension")) (Value.str (Str.ofString "comprehension") 661) (Value.ref 199)), (DictEntry.mk (PyData.keyHash P (Str.ofString "ExceptHandler")) (Value.str (Str.ofString "ExceptHandler") 675) (Value.ref 203)), (DictEntry.mk (PyData.keyHash P (Str.ofString "arguments")) (Value.str (Str.ofString "arguments") 686) (Value.ref 211)), (DictEntry.mk (PyData.keyHash P (Str.ofString "arg")) (Value.str (Str.ofString "arg") 709) (Value.ref 214)), (DictEntry.mk (PyData.keyHash P (Str.ofString "keyword")) (Value.str (Str.ofString "keyword") 717) (Value.ref 217)), (DictEntry.mk (PyData.keyHash P (Str.ofString "alias")) (Value.str (Str.ofString "alias") 725) (Value.ref 220)), (DictEntry.mk (PyData.keyHash P (Str.ofString "withitem")) (Value.str (Str.ofString "withitem") 733) (Value.ref 223)), (DictEntry.mk (PyData.keyHash P (Str.ofString "match_case")) (Value.str (Str.ofString "match_case") 741) (Value.ref 227)), (DictEntry.mk (PyData.keyHash P (Str.ofString "MatchValue")) (Value.str (Str.ofString "MatchValue") 752) (Value.ref 229)), (DictEntry.mk (PyData.keyHash P (Str.ofString "MatchSingleton")) (Value.str (Str.ofString "MatchSingleton") 757) (Value.ref 231)), (DictEntry.mk (PyData.keyHash P (Str.ofString "MatchSequence")) (Value.str (Str.ofString "MatchSequence") 762) (Value.ref 233)), (DictEntry.mk (PyData.keyHash P (Str.ofString "MatchOr")) (Value.str (Str.ofString "MatchOr") 767) (Value.ref 235)), (DictEntry.mk (PyData.keyHash P (Str.ofString "MatchMapping")) (Value.str (Str.ofString "MatchMapping") 772) (Value.ref 239)), (DictEntry.mk (PyData.keyHash P (Str.ofString "MatchClass")) (Value.str (Str.ofString "MatchClass") 783) (Value.ref 245)), (DictEntry.mk (PyData.keyHash P (Str.ofString "MatchStar")) (Value.str (Str.ofString "MatchStar") 797) (Value.ref 247)), (DictEntry.mk (PyData.keyHash P (Str.ofString "MatchAs")) (Value.str (Str.ofString "MatchAs") 802) (Value.ref 250)), (DictEntry.mk (PyData.keyHash P (Str.ofString "And")) (Value.str (Str.ofString "And") 810) (Value.ref 251)), (DictEntry.mk (PyData.keyHash P (Str.ofString "Or")) (Value.str (Str.ofString "Or") 812) (Value.ref 252)), (DictEntry.mk (PyData.keyHash P (Str.ofString "Invert")) (Value.str (Str.ofString "Invert") 814) (Value.ref 253)), (DictEntry.mk (PyData.keyHash P (Str.ofString "Not")) (Value.str (Str.ofString "Not") 816) (Value.ref 254)), (DictEntry.mk (PyData.keyHash P (Str.ofString "UAdd")) (Value.str (Str.ofString "UAdd") 818) (Value.ref 255)), (DictEntry.mk (PyData.keyHash P (Str.ofString "USub")) (Value.str (Str.ofString "USub") 820) (Value.ref 256)), (DictEntry.mk (PyData.keyHash P (Str.ofString "Load")) (Value.str (Str.ofString "Load") 822) (Value.ref 257)), (DictEntry.mk (PyData.keyHash P (Str.ofString "Store")) (Value.str (Str.ofString "Store") 824) (Value.ref 258)), (DictEntry.mk (PyData.keyHash P (Str.ofString "Del")) (Value.str (Str.ofString "Del") 826) (Value.ref 259)), (DictEntry.mk (PyData.keyHash P (Str.ofString "Add")) (Value.str (Str.ofString "Add") 828) (Value.ref 260)), (DictEntry.mk (PyData.keyHash P (Str.ofString "Sub")) (Value.str (Str.ofString "Sub") 830) (Value.ref 261)), (DictEntry.mk (PyData.keyHash P (Str.ofString "Mult")) (Value.str (Str.ofString "Mult") 832) (Value.ref 262)), (DictEntry.mk (PyData.keyHash P (Str.ofString "MatMult")) (Value.str (Str.ofString "MatMult") 834) (Value.ref 263)), (DictEntry.mk (PyData.keyHash P (Str.ofString "Div")) (Value.str (Str.ofString "Div") 836) (Value.ref 264)), (DictEntry.mk (PyData.keyHash P (Str.ofString "FloorDiv")) (Value.str (Str.ofString "FloorDiv") 838) (Value.ref 266)), (DictEntry.mk (PyData.keyHash P (Str.ofString "Pow")) (Value.str (Str.ofString "Pow") 840) (Value.ref 267)), (DictEntry.mk (PyData.keyHash P (Str.ofString "LShift")) (Value.str (Str.ofString "LShift") 842) (Value.ref 268)), (DictEntry.mk (PyData.keyHash P (Str.ofString "RShift")) (Value.str (Str.ofString "RShift") 844) (Value.ref 269)), (DictEntry.mk (PyData.keyHash P (Str.ofString "BitOr")) (Value.str (Str.ofString "BitOr") 846) (Value.ref 270)), (DictEntry.mk (PyData.keyHash P (Str.ofString "BitXor")) (Value.str (Str.ofString "BitXor") 848) (Value.ref 271)), (DictEntry.mk (PyData.keyHash P (Str.ofString "BitAnd")) (Value.str (Str.ofString "BitAnd") 850) (Value.ref 272)), (DictEntry.mk (PyData.keyHash P (Str.ofString "Eq")) (Value.str (Str.ofString "Eq") 852) (Value.ref 273)), (DictEntry.mk (PyData.keyHash P (Str.ofString "NotEq")) (Value.str (Str.ofString "NotEq") 854) (Value.ref 274)), (DictEntry.mk (PyData.keyHash P (Str.ofString "Lt")) (Value.str (Str.ofString "Lt") 856) (Value.ref 275)), (DictEntry.mk (PyData.keyHash P (Str.ofString "LtE")) (Value.str (Str.ofString "LtE") 858) (Value.ref 276)), (DictEntry.mk (PyData.keyHash P (Str.ofString "Gt")) (Value.str (Str.ofString "Gt") 860) (Value.ref 277)), (DictEntry.mk (PyData.keyHash P (Str.ofString "GtE")) (Value.str (Str.ofString "GtE") 862) (Value.ref 278)), (DictEntry.mk (PyData.keyHash P (Str.ofString "Is")) (Value.str (Str.ofString "Is") 864) (Value.ref 279)), (DictEntry.mk (PyData.keyHash P (Str.ofString "IsNot")) (Value.str (Str.ofString "IsNot") 866) (Value.ref 280)), (DictEntry.mk (PyData.keyHash P (Str.ofString "In")) (Value.str (Str.ofString "In") 868) (Value.ref 281)), (DictEntry.mk (PyData.keyHash P (Str.ofString "NotIn")) (Value.str (Str.ofString "NotIn") 870) (Value.ref 282))]) 102) (List.toArray [])))
def o_53 : Params → Obj := (fun P => (Obj.mk (Value.type "tuple") (Option.none) (Data.seq (List.toArray [(Value.str (Str.ofString "body") 192), (Value.str (Str.ofString "STMT") 193), (Value.str (Str.ofString "*") 194)]) 0) (List.toArray [])))
def o_54 : Params → Obj := (fun P => (Obj.mk (Value.type "tuple") (Option.none) (Data.seq (List.toArray [(Value.ref 17)]) 0) (List.toArray [])))
def o_55 : Params → Obj := (fun P => (Obj.mk (Value.type "tuple") (Option.none) (Data.seq (List.toArray [(Value.str (Str.ofString "body") 197), (Value.str (Str.ofString "EXPR") 198), (Value.str (Str.ofString "") 199)]) 0) (List.toArray [])))
def o_56 : Params → Obj := (fun P => (Obj.mk (Value.type "tuple") (Option.none) (Data.seq (List.toArray [(Value.ref 19)]) 0) (List.toArray [])))
def o_57 : Params → Obj := (fun P => (Obj.mk (Value.type "tuple") (Option.none) (Data.seq (List.toArray [(Value.str (Str.ofString "name") 202), (Value.str (Str.ofString "NAME") 203), (Value.str (Str.ofString "") 204)]) 0) (List.toArray [])))
def o_58 : Params → Obj := (fun P => (Obj.mk (Value.type "tuple") (Option.none) (Data.seq (List.toArray [(Value.str (Str.ofString "args") 205), (Value.str (Str.ofString "arguments") 206), (Value.str (Str.ofString "") 207)]) 0) (List.toArray [])))
def o_59 : Params → Obj := (fun P => (Obj.mk (Value.type "tuple") (Option.none) (Data.seq (List.toArray [(Value.str (Str.ofString "body") 208), (Value.str (Str.ofString "STMT") 209), (Value.str (Str.ofString "+") 210)]) 0) (List.toArray [])))
def o_60 : Params → Obj := (fun P => (Obj.mk (Value.type "tuple") (Option.none) (Data.seq (List.toArray [(Value.str (Str.ofString "decorator_list") 211), (Value.str (Str.ofString "EXPR") 212), (Value.str (Str.ofString "*") 213)]) 0) (List.toArray [])))
def o_61 : Params → Obj := (fun P => (Obj.mk (Value.type "tuple") (Option.none) (Data.seq (List.toArray [(Value.str (Str.ofString "returns") 214), (Value.str (Str.ofString "EXPR") 215), (Value.str (Str.ofString "?") 216)]) 0) (List.toArray [])))
def o_62 : Params → Obj := (fun P => (Obj.mk (Value.type "tuple") (Option.none) (Data.seq (List.toArray [(Value.ref 21), (Value.ref 22), (Value.ref 23), (Value.ref 24), (Value.ref 25)]) 0) (List.toArray [])))
def o_63 : Params → Obj := (fun P => (Obj.mk (Value.type "tuple") (Option.none) (Data.seq (List.toArray [(Value.str (Str.ofString "name") 219), (Value.str (Str.ofString "NAME") 220), (Value.str (Str.ofString "") 221)]) 0) (List.toArray [])))
def o_64 : Params → Obj := (fun P => (Obj.mk (Value.type "tuple") (Option.none) (Data.seq (List.toArray [(Value.str (Str.ofString "args") 222), (Value.str (Str.ofString "arguments") 223), (Value.str (Str.ofString "") 224)]) 0) (List.toArray [])))
def o_65 : Params → Obj := (fun P => (Obj.mk (Value.type "tuple") (Option.none) (Data.seq (List.toArray [(Value.str (Str.ofString "body") 225), (Value.str (Str.ofString "STMT") 226), (Value.str (Str.ofString "+") 227)]) 0) (List.toArray [])))
def o_66 : Params → Obj := (fun P => (Obj.mk (Value.type "tuple") (Option.none) (Data.seq (List.toArray [(Value.str (Str.ofString "decorator_list") 228), (Value.str (Str.ofString "EXPR") 229), (Value.str (Str.ofString "*") 230)]) 0) (List.toArray [])))
def o_67 : Params → Obj := (fun P => (Obj.mk (Value.type "tuple") (Option.none) (Data.seq (List.toArray [(Value.str (Str.ofString "returns") 231), (Value.str (Str.ofString "EXPR") 232), (Value.str (Str.ofString "?") 233)]) 0) (List.toArray [])))
def o_68 : Params → Obj := (fun P => (Obj.mk (Value.type "tuple") (Option.none) (Data.seq (List.toArray [(Value.ref 27), (Value.ref 28), (Value.ref 29), (Value.ref 30), (Value.ref 31)]) 0) (List.toArray [])))
def o_69 : Params → Obj := (fun P => (Obj.mk (Value.type "tuple") (Option.none) (Data.seq (List.toArray [(Value.str (Str.ofString "name") 236), (Value.str (Str.ofString "NAME") 237), (Value.str (Str.ofString "") 238)]) 0) (List.toArray [])))
def o_70 : Params → Obj := (fun P => (Obj.mk (Value.type "tuple") (Option.none) (Data.seq (List.toArray [(Value.str (Str.ofString "bases") 239), (Value.str (Str.ofString "EXPR") 240), (Value.str (Str.ofString "*") 241)]) 0) (List.toArray [])))
def o_71 : Params → Obj := (fun P => (Obj.mk (Value.type "tuple") (Option.none) (Data.seq (List.toArray [(Value.str (Str.ofString "keywords") 242), (Value.str (Str.ofString "keyword") 243), (Value.str (Str.ofString "*") 244)]) 0) (List.toArray [])))
def o_72 : Params → Obj := (fun P => (Obj.mk (Value.type "tuple") (Option.none) (Data.seq (List.toArray [(Value.str (Str.ofString "body") 245), (Value.str (Str.ofString "STMT") 246), (Value.str (Str.ofString "+") 247)]) 0) (List.toArray [])))
def o_73 : Params → Obj := (fun P => (Obj.mk (Value.type "tuple") (Option.none) (Data.seq (List.toArray [(Value.str (Str.ofString "decorator_list") 248), (Value.str (Str.ofString "EXPR") 249), (Value.str (Str.ofString "*") 250)]) 0) (List.toArray [])))
def o_74 : Params → Obj := (fun P => (Obj.mk (Value.type "tuple") (Option.none) (Data.seq (List.toArray [(Value.ref 33), (Value.ref 34), (Value.ref 35), (Value.ref 36), (Value.ref 37)]) 0) (List.toArray [])))
def o_75 : Params → Obj := (fun P => (Obj.mk (Value.type "tuple") (Option.none) (Data.seq (List.toArray [(Value.str (Str.ofString "value") 253), (Value.str (Str.ofString "EXPR") 254), (Value.str (Str.ofString "?") 255)]) 0) (List.toArray [])))
def o_76 : Params → Obj := (fun P => (Obj.mk (Value.type "tuple") (Option.none) (Data.seq (List.toArray [(Value.ref 39)]) 0) (List.toArray [])))
def o_77 : Params → Obj := (fun P => (Obj.mk (Value.type "tuple") (Option.none) (Data.seq (List.toArray [(Value.str (Str.ofString "targets") 258), (Value.str (Str.ofString "EXPR") 259), (Value.str (Str.ofString "+") 260)]) 0) (List.toArray [])))
def o_78 : Params → Obj := (fun P => (Obj.mk (Value.type "tuple") (Option.none) (Data.seq (List.toArray [(Value.ref 41)]) 0) (List.toArray [])))
def o_79 : Params → Obj := (fun P => (Obj.mk (Value.type "tuple") (Option.none) (Data.seq (List.toArray [(Value.str (Str.ofString "targets") 263), (Value.str (Str.ofString "EXPR") 264), (Value.str (Str.ofString "+") 265)]) 0) (List.toArray [])))
def o_80 : Params → Obj := (fun P => (Obj.mk (Value.type "tuple") (Option.none) (Data.seq (List.toArray [(Value.str (Str.ofString "value") 266), (Value.str (Str.ofString "EXPR") 267), (Value.str (Str.ofString "") 268)]) 0) (List.toArray [])))
def o_81 : Params → Obj := (fun P => (Obj.mk (Value.type "tuple") (Option.none) (Data.seq (List.toArray [(Value.ref 43), (Value.ref 44)]) 0) (List.toArray [])))
def o_82 : Params → Obj := (fun P => (Obj.mk (Value.type "tuple") (Option.none) (Data.seq (List.toArray [(Value.str (Str.ofString "target") 271), (Value.str (Str.ofString "EXPR") 272), (Value.str (Str.ofString "") 273)]) 0) (List.toArray [])))
def o_83 : Params → Obj := (fun P => (Obj.mk (Value.type "tuple") (Option.none) (Data.seq (List.toArray [(Value.str (Str.ofString "op") 274), (Value.str (Str.ofString "OPERATOR") 275), (Value.str (Str.ofString "") 276)]) 0) (List.toArray [])))
def o_84 : Params → Obj := (fun P => (Obj.mk (Value.type "tuple") (Option.none) (Data.seq (List.toArray [(Value.str (Str.ofString "value") 277), (Value.str (Str.ofString "EXPR") 278), (Value.str (Str.ofString "") 279)]) 0) (List.toArray [])))
def o_85 : Params → Obj := (fun P => (Obj.mk (Value.type "tuple") (Option.none) (Data.seq (List.toArray [(Value.ref 46), (Value.ref 47), (Value.ref 48)]) 0) (List.toArray [])))
def o_86 : Params → Obj := (fun P => (Obj.mk (Value.type "tuple") (Option.none) (Data.seq (List.toArray [(Value.str (Str.ofString "target") 282), (Value.str (Str.ofString "EXPR") 283), (Value.str (Str.ofString "") 284)]) 0) (List.toArray [])))
def o_87 : Params → Obj := (fun P => (Obj.mk (Value.type "tuple") (Option.none) (Data.seq (List.toArray [(Value.str (Str.ofString "annotation") 285), (Value.str (Str.ofString "EXPR") 286), (Value.str (Str.ofString "") 287)]) 0) (List.toArray [])))
def o_88 : Params → Obj := (fun P => (Obj.mk (Value.type "tuple") (Option.none) (Data.seq (List.toArray [(Value.str (Str.ofString "value") 288), (Value.str (Str.ofString "EXPR") 289), (Value.str (Str.ofString "?") 290)]) 0) (List.toArray [])))
def o_89 : Params → Obj := (fun P => (Obj.mk (Value.type "tuple") (Option.none) (Data.seq (List.toArray [(Value.str (Str.ofString "simple") 291), (Value.str (Str.ofString "BIT") 292), (Value.str (Str.ofString "") 293)]) 0) (List.toArray [])))
def o_90 : Params → Obj := (fun P => (Obj.mk (Value.type "tuple") (Option.none) (Data.seq (List.toArray [(Value.ref 50), (Value.ref 51), (Value.ref 52), (Value.ref 53)]) 0) (List.toArray [])))
def o_91 : Params → Obj := (fun P => (Obj.mk (Value.type "tuple") (Option.none) (Data.seq (List.toArray [(Value.str (Str.ofString "target") 296), (Value.str (Str.ofString "EXPR") 297), (Value.str (Str.ofString "") 298)]) 0) (List.toArray [])))
def o_92 : Params → Obj := (fun P => (Obj.mk (Value.type "tuple") (Option.none) (Data.seq (List.toArray [(Value.str (Str.ofString "iter") 299), (Value.str (Str.ofString "EXPR") 300), (Value.str (Str.ofString "") 301)]) 0) (List.toArray [])))
def o_93 : Params → Obj := (fun P => (Obj.mk (Value.type "tuple") (Option.none) (Data.seq (List.toArray [(Value.str (Str.ofString "body") 302), (Value.str (Str.ofString "STMT") 303), (Value.str (Str.ofString "+") 304)]) 0) (List.toArray [])))
def o_94 : Params → Obj := (fun P => (Obj.mk (Value.type "tuple") (Option.none) (Data.seq (List.toArray [(Value.str (Str.ofString "orelse") 305), (Value.str (Str.ofString "STMT") 306), (Value.str (Str.ofString "*") 307)]) 0) (List.toArray [])))
def o_95 : Params → Obj := (fun P => (Obj.mk (Value.type "tuple") (Option.none) (Data.seq (List.toArray [(Value.ref 55), (Value.ref 56), (Value.ref 57), (Value.ref 58)]) 0) (List.toArray [])))
def o_96 : Params → Obj := (fun P => (Obj.mk (Value.type "tuple") (Option.none) (Data.seq (List.toArray [(Value.str (Str.ofString "target") 310), (Value.str (Str.ofString "EXPR") 311), (Value.str (Str.ofString "") 312)]) 0) (List.toArray [])))
def o_97 : Params → Obj := (fun P => (Obj.mk (Value.type "tuple") (Option.none) (Data.seq (List.toArray [(Value.str (Str.ofString "iter") 313), (Value.str (Str.ofString "EXPR") 314), (Value.str (Str.ofString "") 315)]) 0) (List.toArray [])))
def o_98 : Params → Obj := (fun P => (Obj.mk (Value.type "tuple") (Option.none) (Data.seq (List.toArray [(Value.str (Str.ofString "body") 316), (Value.str (Str.ofString "STMT") 317), (Value.str (Str.ofString "+") 318)]) 0) (List.toArray [])))
def o_99 : Params → Obj := (fun P => (Obj.mk (Value.type "tuple") (Option.none) (Data.seq (List.toArray [(Value.str (Str.ofString "orelse") 319), (Value.str (Str.ofString "STMT") 320), (Value.str (Str.ofString "*") 321)]) 0) (List.toArray [])))
def o_100 : Params → Obj := (fun P => (Obj.mk (Value.type "tuple") (Option.none) (Data.seq (List.toArray [(Value.ref 60), (Value.ref 61), (Value.ref 62), (Value.ref 63)]) 0) (List.toArray [])))
def o_101 : Params → Obj := (fun P => (Obj.mk (Value.type "tuple") (Option.none) (Data.seq (List.toArray [(Value.str (Str.ofString "test") 324), (Value.str (Str.ofString "EXPR") 325), (Value.str (Str.ofString "") 326)]) 0) (List.toArray [])))
def o_102 : Params → Obj := (fun P => (Obj.mk (Value.type "tuple") (Option.none) (Data.seq (List.toArray [(Value.str (Str.ofString "body") 327), (Value.str (Str.ofString "STMT") 328), (Value.str (Str.ofString "+") 329)]) 0) (List.toArray [])))
def o_103 : Params → Obj := (fun P => (Obj.mk (Value.type "tuple") (Option.none) (Data.seq (List.toArray [(Value.str (Str.ofString "orelse") 330), (Value.str (Str.ofString "STMT") 331), (Value.str (Str.ofString "*") 332)]) 0) (List.toArray [])))
def o_104 : Params → Obj := (fun P => (Obj.mk (Value.type "tuple") (Option.none) (Data.seq (List.toArray [(Value.ref 65), (Value.ref 66), (Value.ref 67)]) 0) (List.toArray [])))
def o_105 : Params → Obj := (fun P => (Obj.mk (Value.type "tuple") (Option.none) (Data.seq (List.toArray [(Value.str (Str.ofString "test") 335), (Value.str (Str.ofString "EXPR") 336), (Value.str (Str.ofString "") 337)]) 0) (List.toArray [])))
def o_106 : Params → Obj := (fun P => (Obj.mk (Value.type "tuple") (Option.none) (Data.seq (List.toArray [(Value.str (Str.ofString "body") 338), (Value.str (Str.ofString "STMT") 339), (Value.str (Str.ofString "+") 340)]) 0) (List.toArray [])))
def o_107 : Params → Obj := (fun P => (Obj.mk (Value.type "tuple") (Option.none) (Data.seq (List.toArray [(Value.str (Str.ofString "orelse") 341), (Value.str (Str.ofString "STMT") 342), (Value.str (Str.ofString "*") 343)]) 0) (List.toArray [])))
def o_108 : Params → Obj := (fun P => (Obj.mk (Value.type "tuple") (Option.none) (Data.seq (List.toArray [(Value.ref 69), (Value.ref 70), (Value.ref 71)]) 0) (List.toArray [])))
def o_109 : Params → Obj := (fun P => (Obj.mk (Value.type "tuple") (Option.none) (Data.seq (List.toArray [(Value.str (Str.ofString "items") 346), (Value.str (Str.ofString "withitem") 347), (Value.str (Str.ofString "+") 348)]) 0) (List.toArray [])))
def o_110 : Params → Obj := (fun P => (Obj.mk (Value.type "tuple") (Option.none) (Data.seq (List.toArray [(Value.str (Str.ofString "body") 349), (Value.str (Str.ofString "STMT") 350), (Value.str (Str.ofString "+") 351)]) 0) (List.toArray [])))
def o_111 : Params → Obj := (fun P => (Obj.mk (Value.type "tuple") (Option.none) (Data.seq (List.toArray [(Value.ref 73), (Value.ref 74)]) 0) (List.toArray [])))
def o_112 : Params → Obj := (fun P => (Obj.mk (Value.type "tuple") (Option.none) (Data.seq (List.toArray [(Value.str (Str.ofString "items") 354), (Value.str (Str.ofString "withitem") 355), (Value.str (Str.ofString "+") 356)]) 0) (List.toArray [])))
def o_113 : Params → Obj := (fun P => (Obj.mk (Value.type "tuple") (Option.none) (Data.seq (List.toArray [(Value.str (Str.ofString "body") 357), (Value.str (Str.ofString "STMT") 358), (Value.str (Str.ofString "+") 359)]) 0) (List.toArray [])))
def o_114 : Params → Obj := (fun P => (Obj.mk (Value.type "tuple") (Option.none) (Data.seq (List.toArray [(Value.ref 76), (Value.ref 77)]) 0) (List.toArray [])))
def o_115 : Params → Obj := (fun P => (Obj.mk (Value.type "tuple") (Option.none) (Data.seq (List.toArray [(Value.str (Str.ofString "subject") 362), (Value.str (Str.ofString "EXPR") 363), (Value.str (Str.ofString "") 364)]) 0) (List.toArray [])))
def o_116 : Params → Obj := (fun P => (Obj.mk (Value.type "tuple") (Option.none) (Data.seq (List.toArray [(Value.str (Str.ofString "cases") 365), (Value.str (Str.ofString "match_case") 366), (Value.str (Str.ofString "+") 367)]) 0) (List.toArray [])))
def o_117 : Params → Obj := (fun P => (Obj.mk (Value.type "tuple") (Option.none) (Data.seq (List.toArray [(Value.ref 79), (Value.ref 80)]) 0) (List.toArray [])))
def o_118 : Params → Obj := (fun P => (Obj.mk (Value.type "dict") (Option.none) (Data.dict (List.toArray [(DictEntry.mk (PyData.keyHash P (Str.ofString "Raise")) (Value.str (Str.ofString "Raise") 369) (Value.ref 85)), (DictEntry.mk (PyData.keyHash P (Str.ofString "Assert")) (Value.str (Str.ofString "Assert") 377) (Value.ref 88)), (DictEntry.mk (PyData.keyHash P (Str.ofString "Try")) (Value.str (Str.ofString "Try") 385) (Value.ref 93)), (DictEntry.mk (PyData.keyHash P (Str.ofString "Import")) (Value.str (Str.ofString "Import") 399) (Value.ref 95)), (DictEntry.mk (PyData.keyHash P (Str.ofString "ImportFrom")) (Value.str (Str.ofString "ImportFrom") 404) (Value.ref 99)), (DictEntry.mk (PyData.keyHash P (Str.ofString "Global")) (Value.str (Str.ofString "Global") 415) (Value.ref 101)), (DictEntry.mk (PyData.keyHash P (Str.ofString "Nonlocal")) (Value.str (Str.ofString "Nonlocal") 420) (Value.ref 103)), (DictEntry.mk (PyData.keyHash P (Str.ofString "Expr")) (Value.str (Str.ofString "Expr") 425) (Value.ref 105)), (DictEntry.mk (PyData.keyHash P (Str.ofString "Pass")) (Value.str (Str.ofString "Pass") 430) (Value.ref 106)), (DictEntry.mk (PyData.keyHash P (Str.ofString "Break")) (Value.str (Str.ofString "Break") 432) (Value.ref 107)), (DictEntry.mk (PyData.keyHash P (Str.ofString "Continue")) (Value.str (Str.ofString "Continue") 434) (Value.ref 108)), (DictEntry.mk (PyData.keyHash P (Str.ofString "BoolOp")) (Value.str (Str.ofString "BoolOp") 436) (Value.ref 111)), (DictEntry.mk (PyData.keyHash P (Str.ofString "NamedExpr")) (Value.str (Str.ofString "NamedExpr") 444) (Value.ref 114)), (DictEntry.mk (PyData.keyHash P (Str.ofString "BinOp")) (Value.str (Str.ofString "BinOp") 452) (Value.ref 118)), (DictEntry.mk (PyData.keyHash P (Str.ofString "UnaryOp")) (Value.str (Str.ofString "UnaryOp") 463) (Value.ref 121)), (DictEntry.mk (PyData.keyHash P (Str.ofString "Lambda")) (Value.str (Str.ofString "Lambda") 471) (Value.ref 124)), (DictEntry.mk (PyData.keyHash P (Str.ofString "IfExp")) (Value.str (Str.ofString "IfExp") 479) (Value.ref 128))]) 17) (List.toArray [])))
def o_119 : Params → Obj := (fun P => (Obj.mk (Value.type "tuple") (Option.none) (Data.seq (List.toArray [(Value.str (Str.ofString "exc") 370), (Value.str (Str.ofString "EXPR") 371), (Value.str (Str.ofString "?") 372)]) 0) (List.toArray [])))
def o_120 : Params → Obj := (fun P => (Obj.mk (Value.type "tuple") (Option.none) (Data.seq (List.toArray [(Value.str (Str.ofString "cause") 373), (Value.str (Str.ofString "EXPR") 374), (Value.str (Str.ofString "?") 375)]) 0) (List.toArray [])))
def o_121 : Params → Obj := (fun P => (Obj.mk (Value.type "tuple") (Option.none) (Data.seq (List.toArray [(Value.ref 83), (Value.ref 84)]) 0) (List.toArray [])))
def o_122 : Params → Obj := (fun P => (Obj.mk (Value.type "tuple") (Option.none) (Data.seq (List.toArray [(Value.str (Str.ofString "test") 378), (Value.str (Str.ofString "EXPR") 379), (Value.str (Str.ofString "") 380)]) 0) (List.toArray [])))
def o_123 : Params → Obj := (fun P => (Obj.mk (Value.type "tuple") (Option.none) (Data.seq (List.toArray [(Value.str (Str.ofString "msg") 381), (Value.str (Str.ofString "EXPR") 382), (Value.str (Str.ofString "?") 383)]) 0) (List.toArray [])))
def o_124 : Params → Obj := (fun P => (Obj.mk (Value.type "tuple") (Option.none) (Data.seq (List.toArray [(Value.ref 86), (Value.ref 87)]) 0) (List.toArray [])))
def o_125 : Params → Obj := (fun P => (Obj.mk (Value.type "tuple") (Option.none) (Data.seq (List.toArray [(Value.str (Str.ofString "body") 386), (Value.str (Str.ofString "STMT") 387), (Value.str (Str.ofString "+") 388)]) 0) (List.toArray [])))
def o_126 : Params → Obj := (fun P => (Obj.mk (Value.type "tuple") (Option.none) (Data.seq (List.toArray [(Value.str (Str.ofString "handlers") 389), (Value.str (Str.ofString "ExceptHandler") 390), (Value.str (Str.ofString "*") 391)]) 0) (List.toArray [])))
def o_127 : Params → Obj := (fun P => (Obj.mk (Value.type "tuple") (Option.none) (Data.seq (List.toArray [(Value.str (Str.ofString "orelse") 392), (Value.str (Str.ofString "STMT") 393), (Value.str (Str.ofString "*") 394)]) 0) (List.toArray [])))
def o_128 : Params → Obj := (fun P => (Obj.mk (Value.type "tuple") (Option.none) (Data.seq (List.toArray [(Value.str (Str.ofString "finalbody") 395), (Value.str (Str.ofString "STMT") 396), (Value.str (Str.ofString "*") 397)]) 0) (List.toArray [])))
def o_129 : Params → Obj := (fun P => (Obj.mk (Value.type "tuple") (Option.none) (Data.seq (List.toArray [(Value.ref 89), (Value.ref 90), (Value.ref 91), (Value.ref 92)]) 0) (List.toArray [])))
def o_130 : Params → Obj := (fun P => (Obj.mk (Value.type "tuple") (Option.none) (Data.seq (List.toArray [(Value.str (Str.ofString "names") 400), (Value.str (Str.ofString "alias") 401), (Value.str (Str.ofString "+") 402)]) 0) (List.toArray [])))
def o_131 : Params → Obj := (fun P => (Obj.mk (Value.type "tuple") (Option.none) (Data.seq (List.toArray [(Value.ref 94)]) 0) (List.toArray [])))
def o_132 : Params → Obj := (fun P => (Obj.mk (Value.type "tuple") (Option.none) (Data.seq (List.toArray [(Value.str (Str.ofString "module") 405), (Value.str (Str.ofString "DOTTED") 406), (Value.str (Str.ofString "?") 407)]) 0) (List.toArray [])))
def o_133 : Params → Obj := (fun P => (Obj.mk (Value.type "tuple") (Option.none) (Data.seq (List.toArray [(Value.str (Str.ofString "names") 408), (Value.str (Str.ofString "alias") 409), (Value.str (Str.ofString "+") 410)]) 0) (List.toArray [])))
def o_134 : Params → Obj := (fun P => (Obj.mk (Value.type "tuple") (Option.none) (Data.seq (List.toArray [(Value.str (Str.ofString "level") 411), (Value.str (Str.ofString "COUNT") 412), (Value.str (Str.ofString "") 413)]) 0) (List.toArray [])))
def o_135 : Params → Obj := (fun P => (Obj.mk (Value.type "tuple") (Option.none) (Data.seq (List.toArray [(Value.ref 96), (Value.ref 97), (Value.ref 98)]) 0) (List.toArray [])))
def o_136 : Params → Obj := (fun P => (Obj.mk (Value.type "tuple") (Option.none) (Data.seq (List.toArray [(Value.str (Str.ofString "names") 416), (Value.str (Str.ofString "NAME") 417), (Value.str (Str.ofString "+") 418)]) 0) (List.toArray [])))
def o_137 : Params → Obj := (fun P => (Obj.mk (Value.type "tuple") (Option.none) (Data.seq (List.toArray [(Value.ref 100)]) 0) (List.toArray [])))
def o_138 : Params → Obj := (fun P => (Obj.mk (Value.type "tuple") (Option.none) (Data.seq (List.toArray [(Value.str (Str.ofString "names") 421), (Value.str (Str.ofString "NAME") 422), (Value.str (Str.ofString "+") 423)]) 0) (List.toArray [])))
def o_139 : Params → Obj := (fun P => (Obj.mk (Value.type "tuple") (Option.none) (Data.seq (List.toArray [(Value.ref 102)]) 0) (List.toArray [])))
def o_140 : Params → Obj := (fun P => (Obj.mk (Value.type "tuple") (Option.none) (Data.seq (List.toArray [(Value.str (Str.ofString "value") 426), (Value.str (Str.ofString "EXPR") 427), (Value.str (Str.ofString "") 428)]) 0) (List.toArray [])))
def o_141 : Params → Obj := (fun P => (Obj.mk (Value.type "tuple") (Option.none) (Data.seq (List.toArray [(Value.ref 104)]) 0) (List.toArray [])))
def o_142 : Params → Obj := (fun P => (Obj.mk (Value.type "tuple") (Option.none) (Data.seq (List.toArray []) 0) (List.toArray [])))
def o_143 : Params → Obj := (fun P => (Obj.mk (Value.type "tuple") (Option.none) (Data.seq (List.toArray []) 0) (List.toArray [])))
def o_144 : Params → Obj := (fun P => (Obj.mk (Value.type "tuple") (Option.none) (Data.seq (List.toArray []) 0) (List.toArray [])))
def o_145 : Params → Obj := (fun P => (Obj.mk (Value.type "tuple") (Option.none) (Data.seq (List.toArray [(Value.str (Str.ofString "op") 437), (Value.str (Str.ofString "BOOLEAN") 438), (Value.str (Str.ofString "") 439)]) 0) (List.toArray [])))
def o_146 : Params → Obj := (fun P => (Obj.mk (Value.type "tuple") (Option.none) (Data.seq (List.toArray [(Value.str (Str.ofString "values") 440), (Value.str (Str.ofString "EXPR") 441), (Value.str (Str.ofString "+") 442)]) 0) (List.toArray [])))
def o_147 : Params → Obj := (fun P => (Obj.mk (Value.type "tuple") (Option.none) (Data.seq (List.toArray [(Value.ref 109), (Value.ref 110)]) 0) (List.toArray [])))
def o_148 : Params → Obj := (fun P => (Obj.mk (Value.type "tuple") (Option.none) (Data.seq (List.toArray [(Value.str (Str.ofString "target") 445), (Value.str (Str.ofString "EXPR") 446), (Value.str (Str.ofString "") 447)]) 0) (List.toArray [])))
def o_149 : Params → Obj := (fun P => (Obj.mk (Value.type "tuple") (Option.none) (Data.seq (List.toArray [(Value.str (Str.ofString "value") 448), (Value.str (Str.ofString "EXPR") 449), (Value.str (Str.ofString "") 450)]) 0) (List.toArray [])))
def o_150 : Params → Obj := (fun P => (Obj.mk (Value.type "tuple") (Option.none) (Data.seq (List.toArray [(Value.ref 112), (Value.ref 113)]) 0) (List.toArray [])))
def o_151 : Params → Obj := (fun P => (Obj.mk (Value.type "tuple") (Option.none) (Data.seq (List.toArray [(Value.str (Str.ofString "left") 453), (Value.str (Str.ofString "EXPR") 454), (Value.str (Str.ofString "") 455)]) 0) (List.toArray [])))
def o_152 : Params → Obj := (fun P => (Obj.mk (Value.type "tuple") (Option.none) (Data.seq (List.toArray [(Value.str (Str.ofString "op") 456), (Value.str (Str.ofString "OPERATOR") 457), (Value.str (Str.ofString "") 458)]) 0) (List.toArray [])))
def o_153 : Params → Obj := (fun P => (Obj.mk (Value.type "tuple") (Option.none) (Data.seq (List.toArray [(Value.str (Str.ofString "right") 459), (Value.str (Str.ofString "EXPR") 460), (Value.str (Str.ofString "") 461)]) 0) (List.toArray [])))
def o_154 : Params → Obj := (fun P => (Obj.mk (Value.type "tuple") (Option.none) (Data.seq (List.toArray [(Value.ref 115), (Value.ref 116), (Value.ref 117)]) 0) (List.toArray [])))
def o_155 : Params → Obj := (fun P => (Obj.mk (Value.type "tuple") (Option.none) (Data.seq (List.toArray [(Value.str (Str.ofString "op") 464), (Value.str (Str.ofString "UNARY") 465), (Value.str (Str.ofString "") 466)]) 0) (List.toArray [])))
def o_156 : Params → Obj := (fun P => (Obj.mk (Value.type "tuple") (Option.none) (Data.seq (List.toArray [(Value.str (Str.ofString "operand") 467), (Value.str (Str.ofString "EXPR") 468), (Value.str (Str.ofString "") 469)]) 0) (List.toArray [])))
def o_157 : Params → Obj := (fun P => (Obj.mk (Value.type "tuple") (Option.none) (Data.seq (List.toArray [(Value.ref 119), (Value.ref 120)]) 0) (List.toArray [])))
def o_158 : Params → Obj := (fun P => (Obj.mk (Value.type "tuple") (Option.none) (Data.seq (List.toArray [(Value.str (Str.ofString "args") 472), (Value.str (Str.ofString "arguments") 473), (Value.str (Str.ofString "") 474)]) 0) (List.toArray [])))
def o_159 : Params → Obj := (fun P => (Obj.mk (Value.type "tuple") (Option.none) (Data.seq (List.toArray [(Value.str (Str.ofString "body") 475), (Value.str (Str.ofString "EXPR") 476), (Value.str (Str.ofString "") 477)]) 0) (List.toArray [])))
def o_160 : Params → Obj := (fun P => (Obj.mk (Value.type "tuple") (Option.none) (Data.seq (List.toArray [(Value.ref 122), (Value.ref 123)]) 0) (List.toArray [])))
def o_161 : Params → Obj := (fun P => (Obj.mk (Value.type "tuple") (Option.none) (Data.seq (List.toArray [(Value.str (Str.ofString "test") 480), (Value.str (Str.ofString "EXPR") 481), (Value.str (Str.ofString "") 482)]) 0) (List.toArray [])))
def o_162 : Params → Obj := (fun P => (Obj.mk (Value.type "tuple") (Option.none) (Data.seq (List.toArray [(Value.str (Str.ofString "body") 483), (Value.str (Str.ofString "EXPR") 484), (Value.str (Str.ofString "") 485)]) 0) (List.toArray [])))
def o_163 : Params → Obj := (fun P => (Obj.mk (Value.type "tuple") (Option.none) (Data.seq (List.toArray [(Value.str (Str.ofString "orelse") 486), (Value.str (Str.ofString "EXPR") 487), (Value.str (Str.ofString "") 488)]) 0) (List.toArray [])))
def o_164 : Params → Obj := (fun P => (Obj.mk (Value.type "tuple") (Option.none) (Data.seq (List.toArray [(Value.ref 125), (Value.ref 126), (Value.ref 127)]) 0) (List.toArray [])))
def o_165 : Params → Obj := (fun P => (Obj.mk (Value.type "dict") (Option.none) (Data.dict (List.toArray [(DictEntry.mk (PyData.keyHash P (Str.ofString "Dict")) (Value.str (Str.ofString "Dict") 490) (Value.ref 132)), (DictEntry.mk (PyData.keyHash P (Str.ofString "Set")) (Value.str (Str.ofString "Set") 498) (Value.ref 134)), (DictEntry.mk (PyData.keyHash P (Str.ofString "ListComp")) (Value.str (Str.ofString "ListComp") 503) (Value.ref 137)), (DictEntry.mk (PyData.keyHash P (Str.ofString "SetComp")) (Value.str (Str.ofString "SetComp") 511) (Value.ref 140)), (DictEntry.mk (PyData.keyHash P (Str.ofString "GeneratorExp")) (Value.str (Str.ofString "GeneratorExp") 519) (Value.ref 143)), (DictEntry.mk (PyData.keyHash P (Str.ofString "DictComp")) (Value.str (Str.ofString "DictComp") 527) (Value.ref 147)), (DictEntry.mk (PyData.keyHash P (Str.ofString "Await")) (Value.str (Str.ofString "Await") 538) (Value.ref 149)), (DictEntry.mk (PyData.keyHash P (Str.ofString "Yield")) (Value.str (Str.ofString "Yield") 543) (Value.ref 151)), (DictEntry.mk (PyData.keyHash P (Str.ofString "YieldFrom")) (Value.str (Str.ofString "YieldFrom") 548) (Value.ref 153)), (DictEntry.mk (PyData.keyHash P (Str.ofString "Compare")) (Value.str (Str.ofString "Compare") 553) (Value.ref 157)), (DictEntry.mk (PyData.keyHash P (Str.ofString "Call")) (Value.str (Str.ofString "Call") 564) (Value.ref 161)), (DictEntry.mk (PyData.keyHash P (Str.ofString "FormattedValue")) (Value.str (Str.ofString "FormattedValue") 575) (Value.ref 165)), (DictEntry.mk (PyData.keyHash P (Str.ofString "JoinedStr")) (Value.str (Str.ofString "JoinedStr") 586) (Value.ref 167)), (DictEntry.mk (PyData.keyHash P (Str.ofString "Constant")) (Value.str (Str.ofString "Constant") 591) (Value.ref 169)), (DictEntry.mk (PyData.keyHash P (Str.ofString "Attribute")) (Value.str (Str.ofString "Attribute") 596) (Value.ref 173)), (DictEntry.mk (PyData.keyHash P (Str.ofString "Subscript")) (Value.str (Str.ofString "Subscript") 607) (Value.ref 177)), (DictEntry.mk (PyData.keyHash P (Str.ofString "Starred")) (Value.str (Str.ofString "Starred") 618) (Value.ref 180))]) 17) (List.toArray [])))
def o_166 : Params → Obj := (fun P => (Obj.mk (Value.type "tuple") (Option.none) (Data.seq (List.toArray [(Value.str (Str.ofString "keys") 491), (Value.str (Str.ofString "EXPR") 492), (Value.str (Str.ofString "?*") 493)]) 0) (List.toArray [])))
def o_167 : Params → Obj := (fun P => (Obj.mk (Value.type "tuple") (Option.none) (Data.seq (List.toArray [(Value.str (Str.ofString "values") 494), (Value.str (Str.ofString "EXPR") 495), (Value.str (Str.ofString "*") 496)]) 0) (List.toArray [])))
def o_168 : Params → Obj := (fun P => (Obj.mk (Value.type "tuple") (Option.none) (Data.seq (List.toArray [(Value.ref 130), (Value.ref 131)]) 0) (List.toArray [])))
def o_169 : Params → Obj := (fun P => (Obj.mk (Value.type "tuple") (Option.none) (Data.seq (List.toArray [(Value.str (Str.ofString "elts") 499), (Value.str (Str.ofString "EXPR") 500), (Value.str (Str.ofString "+") 501)]) 0) (List.toArray [])))
def o_170 : Params → Obj := (fun P => (Obj.mk (Value.type "tuple") (Option.none) (Data.seq (List.toArray [(Value.ref 133)]) 0) (List.toArray [])))
def o_171 : Params → Obj := (fun P => (Obj.mk (Value.type "tuple") (Option.none) (Data.seq (List.toArray [(Value.str (Str.ofString "elt") 504), (Value.str (Str.ofString "EXPR") 505), (Value.str (Str.ofString "") 506)]) 0) (List.toArray [])))
def o_172 : Params → Obj := (fun P => (Obj.mk (Value.type "tuple") (Option.none) (Data.seq (List.toArray [(Value.str (Str.ofString "generators") 507), (Value.str (Str.ofString "comprehension") 508), (Value.str (Str.ofString "+") 509)]) 0) (List.toArray [])))
def o_173 : Params → Obj := (fun P => (Obj.mk (Value.type "tuple") (Option.none) (Data.seq (List.toArray [(Value.ref 135), (Value.ref 136)]) 0) (List.toArray [])))
def o_174 : Params → Obj := (fun P => (Obj.mk (Value.type "tuple") (Option.none) (Data.seq (List.toArray [(Value.str (Str.ofString "elt") 512), (Value.str (Str.ofString "EXPR") 513), (Value.str (Str.ofString "") 514)]) 0) (List.toArray [])))
def o_175 : Params → Obj := (fun P => (Obj.mk (Value.type "tuple") (Option.none) (Data.seq (List.toArray [(Value.str (Str.ofString "generators") 515), (Value.str (Str.ofString "comprehension") 516), (Value.str (Str.ofString "+") 517)]) 0) (List.toArray [])))
def o_176 : Params → Obj := (fun P => (Obj.mk (Value.type "tuple") (Option.none) (Data.seq (List.toArray [(Value.ref 138), (Value.ref 139)]) 0) (List.toArray [])))
def o_177 : Params → Obj := (fun P => (Obj.mk (Value.type "tuple") (Option.none) (Data.seq (List.toArray [(Value.str (Str.ofString "elt") 520), (Value.str (Str.ofString "EXPR") 521), (Value.str (Str.ofString "") 522)]) 0) (List.toArray [])))
def o_178 : Params → Obj := (fun P => (Obj.mk (Value.type "tuple") (Option.none) (Data.seq (List.toArray [(Value.str (Str.ofString "generators") 523), (Value.str (Str.ofString "comprehension") 524), (Value.str (Str.ofString "+") 525)]) 0) (List.toArray [])))
def o_179 : Params → Obj := (fun P => (Obj.mk (Value.type "tuple") (Option.none) (Data.seq (List.toArray [(Value.ref 141), (Value.ref 142)]) 0) (List.toArray [])))
def o_180 : Params → Obj := (fun P => (Obj.mk (Value.type "tuple") (Option.none) (Data.seq (List.toArray [(Value.str (Str.ofString "key") 528), (Value.str (Str.ofString "EXPR") 529), (Value.str (Str.ofString "") 530)]) 0) (List.toArray [])))
def o_181 : Params → Obj := (fun P => (Obj.mk (Value.type "tuple") (Option.none) (Data.seq (List.toArray [(Value.str (Str.ofString "value") 531), (Value.str (Str.ofString "EXPR") 532), (Value.str (Str.ofString "") 533)]) 0) (List.toArray [])))
def o_182 : Params → Obj := (fun P => (Obj.mk (Value.type "tuple") (Option.none) (Data.seq (List.toArray [(Value.str (Str.ofString "generators") 534), (Value.str (Str.ofString "comprehension") 535), (Value.str (Str.ofString "+") 536)]) 0) (List.toArray [])))
def o_183 : Params → Obj := (fun P => (Obj.mk (Value.type "tuple") (Option.none) (Data.seq (List.toArray [(Value.ref 144), (Value.ref 145), (Value.ref 146)]) 0) (List.toArray [])))
def o_184 : Params → Obj := (fun P => (Obj.mk (Value.type "tuple") (Option.none) (Data.seq (List.toArray [(Value.str (Str.ofString "value") 539), (Value.str (Str.ofString "EXPR") 540), (Value.str (Str.ofString "") 541)]) 0) (List.toArray [])))
def o_185 : Params → Obj := (fun P => (Obj.mk (Value.type "tuple") (Option.none) (Data.seq (List.toArray [(Value.ref 148)]) 0) (List.toArray [])))
def o_186 : Params → Obj := (fun P => (Obj.mk (Value.type "tuple") (Option.none) (Data.seq (List.toArray [(Value.str (Str.ofString "value") 544), (Value.str (Str.ofString "EXPR") 545), (Value.str (Str.ofString "?") 546)]) 0) (List.toArray [])))
def o_187 : Params → Obj := (fun P => (Obj.mk (Value.type "tuple") (Option.none) (Data.seq (List.toArray [(Value.ref 150)]) 0) (List.toArray [])))
def o_188 : Params → Obj := (fun P => (Obj.mk (Value.type "tuple") (Option.none) (Data.seq (List.toArray [(Value.str (Str.ofString "value") 549), (Value.str (Str.ofString "EXPR") 550), (Value.str (Str.ofString "") 551)]) 0) (List.toArray [])))
def o_189 : Params → Obj := (fun P => (Obj.mk (Value.type "tuple") (Option.none) (Data.seq (List.toArray [(Value.ref 152)]) 0) (List.toArray [])))
def o_190 : Params → Obj := (fun P => (Obj.mk (Value.type "tuple") (Option.none) (Data.seq (List.toArray [(Value.str (Str.ofString "left") 554), (Value.str (Str.ofString "EXPR") 555), (Value.str (Str.ofString "") 556)]) 0) (List.toArray [])))
def o_191 : Params → Obj := (fun P => (Obj.mk (Value.type "tuple") (Option.none) (Data.seq (List.toArray [(Value.str (Str.ofString "ops") 557), (Value.str (Str.ofString "COMPARISON") 558), (Value.str (Str.ofString "+") 559)]) 0) (List.toArray [])))
def o_192 : Params → Obj := (fun P => (Obj.mk (Value.type "tuple") (Option.none) (Data.seq (List.toArray [(Value.str (Str.ofString "comparators") 560), (Value.str (Str.ofString "EXPR") 561), (Value.str (Str.ofString "+") 562)]) 0) (List.toArray [])))
def o_193 : Params → Obj := (fun P => (Obj.mk (Value.type "tuple") (Option.none) (Data.seq (List.toArray [(Value.ref 154), (Value.ref 155), (Value.ref 156)]) 0) (List.toArray [])))
def o_194 : Params → Obj := (fun P => (Obj.mk (Value.type "tuple") (Option.none) (Data.seq (List.toArray [(Value.str (Str.ofString "func") 565), (Value.str (Str.ofString "EXPR") 566), (Value.str (Str.ofString "") 567)]) 0) (List.toArray [])))
def o_195 : Params → Obj := (fun P => (Obj.mk (Value.type "tuple") (Option.none) (Data.seq (List.toArray [(Value.str (Str.ofString "args") 568), (Value.str (Str.ofString "EXPR") 569), (Value.str (Str.ofString "*") 570)]) 0) (List.toArray [])))
def o_196 : Params → Obj := (fun P => (Obj.mk (Value.type "tuple") (Option.none) (Data.seq (List.toArray [(Value.str (Str.ofString "keywords") 571), (Value.str (Str.ofString "keyword") 572), (Value.str (Str.ofString "*") 573)]) 0) (List.toArray [])))
def o_197 : Params → Obj := (fun P => (Obj.mk (Value.type "tuple") (Option.none) (Data.seq (List.toArray [(Value.ref 158), (Value.ref 159), (Value.ref 160)]) 0) (List.toArray [])))
def o_198 : Params → Obj := (fun P => (Obj.mk (Value.type "tuple") (Option.none) (Data.seq (List.toArray [(Value.str (Str.ofString "value") 576), (Value.str (Str.ofString "EXPR") 577), (Value.str (Str.ofString "") 578)]) 0) (List.toArray [])))
def o_199 : Params → Obj := (fun P => (Obj.mk (Value.type "tuple") (Option.none) (Data.seq (List.toArray [(Value.str (Str.ofString "conversion") 579), (Value.str (Str.ofString "CONVERSION") 580), (Value.str (Str.ofString "") 581)]) 0) (List.toArray [])))
def o_200 : Params → Obj := (fun P => (Obj.mk (Value.type "tuple") (Option.none) (Data.seq (List.toArray [(Value.str (Str.ofString "format_spec") 582), (Value.str (Str.ofString "JoinedStr") 583), (Value.str (Str.ofString "?") 584)]) 0) (List.toArray [])))
def o_201 : Params → Obj := (fun P => (Obj.mk (Value.type "tuple") (Option.none) (Data.seq (List.toArray [(Value.ref 162), (Value.ref 163), (Value.ref 164)]) 0) (List.toArray [])))
def o_202 : Params → Obj := (fun P => (Obj.mk (Value.type "tuple") (Option.none) (Data.seq (List.toArray [(Value.str (Str.ofString "values") 587), (Value.str (Str.ofString "EXPR") 588), (Value.str (Str.ofString "*") 589)]) 0) (List.toArray [])))
def o_203 : Params → Obj := (fun P => (Obj.mk (Value.type "tuple") (Option.none) (Data.seq (List.toArray [(Value.ref 166)]) 0) (List.toArray [])))
def o_204 : Params → Obj := (fun P => (Obj.mk (Value.type "tuple") (Option.none) (Data.seq (List.toArray [(Value.str (Str.ofString "value") 592), (Value.str (Str.ofString "VALUE") 593), (Value.str (Str.ofString "") 594)]) 0) (List.toArray [])))
def o_205 : Params → Obj := (fun P => (Obj.mk (Value.type "tuple") (Option.none) (Data.seq (List.toArray [(Value.ref 168)]) 0) (List.toArray [])))
def o_206 : Params → Obj := (fun P => (Obj.mk (Value.type "tuple") (Option.none) (Data.seq (List.toArray [(Value.str (Str.ofString "value") 597), (Value.str (Str.ofString "EXPR") 598), (Value.str (Str.ofString "") 599)]) 0) (List.toArray [])))
def o_207 : Params → Obj := (fun P => (Obj.mk (Value.type "tuple") (Option.none) (Data.seq (List.toArray [(Value.str (Str.ofString "attr") 600), (Value.str (Str.ofString "NAME") 601), (Value.str (Str.ofString "") 602)]) 0) (List.toArray [])))
def o_208 : Params → Obj := (fun P => (Obj.mk (Value.type "tuple") (Option.none) (Data.seq (List.toArray [(Value.str (Str.ofString "ctx") 603), (Value.str (Str.ofString "CONTEXT") 604), (Value.str (Str.ofString "") 605)]) 0) (List.toArray [])))
def o_209 : Params → Obj := (fun P => (Obj.mk (Value.type "tuple") (Option.none) (Data.seq (List.toArray [(Value.ref 170), (Value.ref 171), (Value.ref 172)]) 0) (List.toArray [])))
def o_210 : Params → Obj := (fun P => (Obj.mk (Value.type "tuple") (Option.none) (Data.seq (List.toArray [(Value.str (Str.ofString "value") 608), (Value.str (Str.ofString "EXPR") 609), (Value.str (Str.ofString "") 610)]) 0) (List.toArray [])))
def o_211 : Params → Obj := (fun P => (Obj.mk (Value.type "tuple") (Option.none) (Data.seq (List.toArray [(Value.str (Str.ofString "slice") 611), (Value.str (Str.ofString "EXPR") 612), (Value.str (Str.ofString "") 613)]) 0) (List.toArray [])))
def o_212 : Params → Obj := (fun P => (Obj.mk (Value.type "tuple") (Option.none) (Data.seq (List.toArray [(Value.str (Str.ofString "ctx") 614), (Value.str (Str.ofString "CONTEXT") 615), (Value.str (Str.ofString "") 616)]) 0) (List.toArray [])))
def o_213 : Params → Obj := (fun P => (Obj.mk (Value.type "tuple") (Option.none) (Data.seq (List.toArray [(Value.ref 174), (Value.ref 175), (Value.ref 176)]) 0) (List.toArray [])))
def o_214 : Params → Obj := (fun P => (Obj.mk (Value.type "tuple") (Option.none) (Data.seq (List.toArray [(Value.str (Str.ofString "value") 619), (Value.str (Str.ofString "EXPR") 620), (Value.str (Str.ofString "") 621)]) 0) (List.toArray [])))
def o_215 : Params → Obj := (fun P => (Obj.mk (Value.type "tuple") (Option.none) (Data.seq (List.toArray [(Value.str (Str.ofString "ctx") 622), (Value.str (Str.ofString "CONTEXT") 623), (Value.str (Str.ofString "") 624)]) 0) (List.toArray [])))
def o_216 : Params → Obj := (fun P => (Obj.mk (Value.type "tuple") (Option.none) (Data.seq (List.toArray [(Value.ref 178), (Value.ref 179)]) 0) (List.toArray [])))
def o_217 : Params → Obj := (fun P => (Obj.mk (Value.type "dict") (Option.none) (Data.dict (List.toArray [(DictEntry.mk (PyData.keyHash P (Str.ofString "Name")) (Value.str (Str.ofString "Name") 626) (Value.ref 184)), (DictEntry.mk (PyData.keyHash P (Str.ofString "List")) (Value.str (Str.ofString "List") 634) (Value.ref 187)), (DictEntry.mk (PyData.keyHash P (Str.ofString "Tuple")) (Value.str (Str.ofString "Tuple") 642) (Value.ref 190)), (DictEntry.mk (PyData.keyHash P (Str.ofString "Slice")) (Value.str (Str.ofString "Slice") 650) (Value.ref 194)), (DictEntry.mk (PyData.keyHash P (Str.ofString "comprehension")) (Value.str (Str.ofString "comprehension") 661) (Value.ref 199)), (DictEntry.mk (PyData.keyHash P (Str.ofString "ExceptHandler")) (Value.str (Str.ofString "ExceptHandler") 675) (Value.ref 203)), (DictEntry.mk (PyData.keyHash P (Str.ofString "arguments")) (Value.str (Str.ofString "arguments") 686) (Value.ref 211)), (DictEntry.mk (PyData.keyHash P (Str.ofString "arg")) (Value.str (Str.ofString "arg") 709) (Value.ref 214)), (DictEntry.mk (PyData.keyHash P (Str.ofString "keyword")) (Value.str (Str.ofString "keyword") 717) (Value.ref 217)), (DictEntry.mk (PyData.keyHash P (Str.ofString "alias")) (Value.str (Str.ofString "alias") 725) (Value.ref 220)), (DictEntry.mk (PyData.keyHash P (Str.ofString "withitem")) (Value.str (Str.ofString "withitem") 733) (Value.ref 223)), (DictEntry.mk (PyData.keyHash P (Str.ofString "match_case")) (Value.str (Str.ofString "match_case") 741) (Value.ref 227)), (DictEntry.mk (PyData.keyHash P (Str.ofString "MatchValue")) (Value.str (Str.ofString "MatchValue") 752) (Value.ref 229)), (DictEntry.mk (PyData.keyHash P (Str.ofString "MatchSingleton")) (Value.str (Str.ofString "MatchSingleton") 757) (Value.ref 231)), (DictEntry.mk (PyData.keyHash P (Str.ofString "MatchSequence")) (Value.str (Str.ofString "MatchSequence") 762) (Value.ref 233)), (DictEntry.mk (PyData.keyHash P (Str.ofString "MatchOr")) (Value.str (Str.ofString "MatchOr") 767) (Value.ref 235)), (DictEntry.mk (PyData.keyHash P (Str.ofString "MatchMapping")) (Value.str (Str.ofString "MatchMapping") 772) (Value.ref 239))]) 17) (List.toArray [])))
def o_218 : Params → Obj := (fun P => (Obj.mk (Value.type "tuple") (Option.none) (Data.seq (List.toArray [(Value.str (Str.ofString "id") 627), (Value.str (Str.ofString "NAME") 628), (Value.str (Str.ofString "") 629)]) 0) (List.toArray [])))
def o_219 : Params → Obj := (fun P => (Obj.mk (Value.type "tuple") (Option.none) (Data.seq (List.toArray [(Value.str (Str.ofString "ctx") 630), (Value.str (Str.ofString "CONTEXT") 631), (Value.str (Str.ofString "") 632)]) 0) (List.toArray [])))
def o_220 : Params → Obj := (fun P => (Obj.mk (Value.type "tuple") (Option.none) (Data.seq (List.toArray [(Value.ref 182), (Value.ref 183)]) 0) (List.toArray [])))
def o_221 : Params → Obj := (fun P => (Obj.mk (Value.type "tuple") (Option.none) (Data.seq (List.toArray [(Value.str (Str.ofString "elts") 635), (Value.str (Str.ofString "EXPR") 636), (Value.str (Str.ofString "*") 637)]) 0) (List.toArray [])))
def o_222 : Params → Obj := (fun P => (Obj.mk (Value.type "tuple") (Option.none) (Data.seq (List.toArray [(Value.str (Str.ofString "ctx") 638), (Value.str (Str.ofString "CONTEXT") 639), (Value.str (Str.ofString "") 640)]) 0) (List.toArray [])))
def o_223 : Params → Obj := (fun P => (Obj.mk (Value.type "tuple") (Option.none) (Data.seq (List.toArray [(Value.ref 185), (Value.ref 186)]) 0) (List.toArray [])))
def o_224 : Params → Obj := (fun P => (Obj.mk (Value.type "tuple") (Option.none) (Data.seq (List.toArray [(Value.str (Str.ofString "elts") 643), (Value.str (Str.ofString "EXPR") 644), (Value.str (Str.ofString "*") 645)]) 0) (List.toArray [])))
def o_225 : Params → Obj := (fun P => (Obj.mk (Value.type "tuple") (Option.none) (Data.seq (List.toArray [(Value.str (Str.ofString "ctx") 646), (Value.str (Str.ofString "CONTEXT") 647), (Value.str (Str.ofString "") 648)]) 0) (List.toArray [])))
def o_226 : Params → Obj := (fun P => (Obj.mk (Value.type "tuple") (Option.none) (Data.seq (List.toArray [(Value.ref 188), (Value.ref 189)]) 0) (List.toArray [])))
def o_227 : Params → Obj := (fun P => (Obj.mk (Value.type "tuple") (Option.none) (Data.seq (List.toArray [(Value.str (Str.ofString "lower") 651), (Value.str (Str.ofString "EXPR") 652), (Value.str (Str.ofString "?") 653)]) 0) (List.toArray [])))
def o_228 : Params → Obj := (fun P => (Obj.mk (Value.type "tuple") (Option.none) (Data.seq (List.toArray [(Value.str (Str.ofString "upper") 654), (Value.str (Str.ofString "EXPR") 655), (Value.str (Str.ofString "?") 656)]) 0) (List.toArray [])))
def o_229 : Params → Obj := (fun P => (Obj.mk (Value.type "tuple") (Option.none) (Data.seq (List.toArray [(Value.str (Str.ofString "step") 657), (Value.str (Str.ofString "EXPR") 658), (Value.str (Str.ofString "?") 659)]) 0) (List.toArray [])))
def o_230 : Params → Obj := (fun P => (Obj.mk (Value.type "tuple") (Option.none) (Data.seq (List.toArray [(Value.ref 191), (Value.ref 192), (Value.ref 193)]) 0) (List.toArray [])))
def o_231 : Params → Obj := (fun P => (Obj.mk (Value.type "tuple") (Option.none) (Data.seq (List.toArray [(Value.str (Str.ofString "target") 662), (Value.str (Str.ofString "EXPR") 663), (Value.str (Str.ofString "") 664)]) 0) (List.toArray [])))
def o_232 : Params → Obj := (fun P => (Obj.mk (Value.type "tuple") (Option.none) (Data.seq (List.toArray [(Value.str (Str.ofString "iter") 665), (Value.str (Str.ofString "EXPR") 666), (Value.str (Str.ofString "") 667)]) 0) (List.toArray [])))
def o_233 : Params → Obj := (fun P => (Obj.mk (Value.type "tuple") (Option.none) (Data.seq (List.toArray [(Value.str (Str.ofString "ifs") 668), (Value.str (Str.ofString "EXPR") 669), (Value.str (Str.ofString "*") 670)]) 0) (List.toArray [])))
def o_234 : Params → Obj := (fun P => (Obj.mk (Value.type "tuple") (Option.none) (Data.seq (List.toArray [(Value.str (Str.ofString "is_async") 671), (Value.str (Str.ofString "BIT") 672), (Value.str (Str.ofString "") 673)]) 0) (List.toArray [])))
def o_235 : Params → Obj := (fun P => (Obj.mk (Value.type "tuple") (Option.none) (Data.seq (List.toArray [(Value.ref 195), (Value.ref 196), (Value.ref 197), (Value.ref 198)]) 0) (List.toArray [])))
def o_236 : Params → Obj := (fun P => (Obj.mk (Value.type "tuple") (Option.none) (Data.seq (List.toArray [(Value.str (Str.ofString "exc") 676), (Value.str (Str.ofString "EXPR") 677), (Value.str (Str.ofString "?") 678)]) 0) (List.toArray [])))
def o_237 : Params → Obj := (fun P => (Obj.mk (Value.type "tuple") (Option.none) (Data.seq (List.toArray [(Value.str (Str.ofString "name") 679), (Value.str (Str.ofString "NAME") 680), (Value.str (Str.ofString "?") 681)]) 0) (List.toArray [])))
def o_238 : Params → Obj := (fun P => (Obj.mk (Value.type "tuple") (Option.none) (Data.seq (List.toArray [(Value.str (Str.ofString "body") 682), (Value.str (Str.ofString "STMT") 683), (Value.str (Str.ofString "+") 684)]) 0) (List.toArray [])))
def o_239 : Params → Obj := (fun P => (Obj.mk (Value.type "tuple") (Option.none) (Data.seq (List.toArray [(Value.ref 200), (Value.ref 201), (Value.ref 202)]) 0) (List.toArray [])))
def o_240 : Params → Obj := (fun P => (Obj.mk (Value.type "tuple") (Option.none) (Data.seq (List.toArray [(Value.str (Str.ofString "posonlyargs") 687), (Value.str (Str.ofString "arg") 688), (Value.str (Str.ofString "*") 689)]) 0) (List.toArray [])))
def o_241 : Params → Obj := (fun P => (Obj.mk (Value.type "tuple") (Option.none) (Data.seq (List.toArray [(Value.str (Str.ofString "args") 690), (Value.str (Str.ofString "arg") 691), (Value.str (Str.ofString "*") 692)]) 0) (List.toArray [])))
def o_242 : Params → Obj := (fun P => (Obj.mk (Value.type "tuple") (Option.none) (Data.seq (List.toArray [(Value.str (Str.ofString "vararg") 693), (Value.str (Str.ofString "arg") 694), (Value.str (Str.ofString "?") 695)]) 0) (List.toArray [])))
def o_243 : Params → Obj := (fun P => (Obj.mk (Value.type "tuple") (Option.none) (Data.seq (List.toArray [(Value.str (Str.ofString "kwonlyargs") 696), (Value.str (Str.ofString "arg") 697), (Value.str (Str.ofString "*") 698)]) 0) (List.toArray [])))
def o_244 : Params → Obj := (fun P => (Obj.mk (Value.type "tuple") (Option.none) (Data.seq (List.toArray [(Value.str (Str.ofString "kw_defaults") 699), (Value.str (Str.ofString "EXPR") 700), (Value.str (Str.ofString "?*") 701)]) 0) (List.toArray [])))
def o_245 : Params → Obj := (fun P => (Obj.mk (Value.type "tuple") (Option.none) (Data.seq (List.toArray [(Value.str (Str.ofString "kwarg") 702), (Value.str (Str.ofString "arg") 703), (Value.str (Str.ofString "?") 704)]) 0) (List.toArray [])))
def o_246 : Params → Obj := (fun P => (Obj.mk (Value.type "tuple") (Option.none) (Data.seq (List.toArray [(Value.str (Str.ofString "defaults") 705), (Value.str (Str.ofString "EXPR") 706), (Value.str (Str.ofString "*") 707)]) 0) (List.toArray [])))
def o_247 : Params → Obj := (fun P => (Obj.mk (Value.type "tuple") (Option.none) (Data.seq (List.toArray [(Value.ref 204), (Value.ref 205), (Value.ref 206), (Value.ref 207), (Value.ref 208), (Value.ref 209), (Value.ref 210)]) 0) (List.toArray [])))
def o_248 : Params → Obj := (fun P => (Obj.mk (Value.type "tuple") (Option.none) (Data.seq (List.toArray [(Value.str (Str.ofString "arg") 710), (Value.str (Str.ofString "NAME") 711), (Value.str (Str.ofString "") 712)]) 0) (List.toArray [])))
def o_249 : Params → Obj := (fun P => (Obj.mk (Value.type "tuple") (Option.none) (Data.seq (List.toArray [(Value.str (Str.ofString "annotation") 713), (Value.str (Str.ofString "EXPR") 714), (Value.str (Str.ofString "?") 715)]) 0) (List.toArray [])))
def o_250 : Params → Obj := (fun P => (Obj.mk (Value.type "tuple") (Option.none) (Data.seq (List.toArray [(Value.ref 212), (Value.ref 213)]) 0) (List.toArray [])))
def o_251 : Params → Obj := (fun P => (Obj.mk (Value.type "tuple") (Option.none) (Data.seq (List.toArray [(Value.str (Str.ofString "arg") 718), (Value.str (Str.ofString "NAME") 719), (Value.str (Str.ofString "?") 720)]) 0) (List.toArray [])))
def o_252 : Params → Obj := (fun P => (Obj.mk (Value.type "tuple") (Option.none) (Data.seq (List.toArray [(Value.str (Str.ofString "value") 721), (Value.str (Str.ofString "EXPR") 722), (Value.str (Str.ofString "") 723)]) 0) (List.toArray [])))
def o_253 : Params → Obj := (fun P => (Obj.mk (Value.type "tuple") (Option.none) (Data.seq (List.toArray [(Value.ref 215), (Value.ref 216)]) 0) (List.toArray [])))
def o_254 : Params → Obj := (fun P => (Obj.mk (Value.type "tuple") (Option.none) (Data.seq (List.toArray [(Value.str (Str.ofString "name") 726), (Value.str (Str.ofString "DOTTED_OR_STAR") 727), (Value.str (Str.ofString "") 728)]) 0) (List.toArray [])))
def o_255 : Params → Obj := (fun P => (Obj.mk (Value.type "tuple") (Option.none) (Data.seq (List.toArray [(Value.str (Str.ofString "asname") 729), (Value.str (Str.ofString "NAME") 730), (Value.str (Str.ofString "?") 731)]) 0) (List.toArray [])))
def o_256 : Params → Obj := (fun P => (Obj.mk (Value.type "tuple") (Option.none) (Data.seq (List.toArray [(Value.ref 218), (Value.ref 219)]) 0) (List.toArray [])))
def o_257 : Params → Obj := (fun P => (Obj.mk (Value.type "tuple") (Option.none) (Data.seq (List.toArray [(Value.str (Str.ofString "context_expr") 734), (Value.str (Str.ofString "EXPR") 735), (Value.str (Str.ofString "") 736)]) 0) (List.toArray [])))
def o_258 : Params → Obj := (fun P => (Obj.mk (Value.type "tuple") (Option.none) (Data.seq (List.toArray [(Value.str (Str.ofString "optional_vars") 737), (Value.str (Str.ofString "EXPR") 738), (Value.str (Str.ofString "?") 739)]) 0) (List.toArray [])))
def o_259 : Params → Obj := (fun P => (Obj.mk (Value.type "tuple") (Option.none) (Data.seq (List.toArray [(Value.ref 221), (Value.ref 222)]) 0) (List.toArray [])))
def o_260 : Params → Obj := (fun P => (Obj.mk (Value.type "tuple") (Option.none) (Data.seq (List.toArray [(Value.str (Str.ofString "pattern") 742), (Value.str (Str.ofString "PATTERN") 743), (Value.str (Str.ofString "") 744)]) 0) (List.toArray [])))
def o_261 : Params → Obj := (fun P => (Obj.mk (Value.type "tuple") (Option.none) (Data.seq (List.toArray [(Value.str (Str.ofString "guard") 745), (Value.str (Str.ofString "EXPR") 746), (Value.str (Str.ofString "?") 747)]) 0) (List.toArray [])))
def o_262 : Params → Obj := (fun P => (Obj.mk (Value.type "tuple") (Option.none) (Data.seq (List.toArray [(Value.str (Str.ofString "body") 748), (Value.str (Str.ofString "STMT") 749), (Value.str (Str.ofString "+") 750)]) 0) (List.toArray [])))
def o_263 : Params → Obj := (fun P => (Obj.mk (Value.type "tuple") (Option.none) (Data.seq (List.toArray [(Value.ref 224), (Value.ref 225), (Value.ref 226)]) 0) (List.toArray [])))
def o_264 : Params → Obj := (fun P => (Obj.mk (Value.type "tuple") (Option.none) (Data.seq (List.toArray [(Value.str (Str.ofString "value") 753), (Value.str (Str.ofString "EXPR") 754), (Value.str (Str.ofString "") 755)]) 0) (List.toArray [])))
def o_265 : Params → Obj := (fun P => (Obj.mk (Value.type "tuple") (Option.none) (Data.seq (List.toArray [(Value.ref 228)]) 0) (List.toArray [])))
def o_266 : Params → Obj := (fun P => (Obj.mk (Value.type "tuple") (Option.none) (Data.seq (List.toArray [(Value.str (Str.ofString "value") 758), (Value.str (Str.ofString "SINGLETON") 759), (Value.str (Str.ofString "") 760)]) 0) (List.toArray [])))
def o_267 : Params → Obj := (fun P => (Obj.mk (Value.type "tuple") (Option.none) (Data.seq (List.toArray [(Value.ref 230)]) 0) (List.toArray [])))
def o_268 : Params → Obj := (fun P => (Obj.mk (Value.type "tuple") (Option.none) (Data.seq (List.toArray [(Value.str (Str.ofString "patterns") 763), (Value.str (Str.ofString "PATTERN") 764), (Value.str (Str.ofString "*") 765)]) 0) (List.toArray [])))
def o_269 : Params → Obj := (fun P => (Obj.mk (Value.type "tuple") (Option.none) (Data.seq (List.toArray [(Value.ref 232)]) 0) (List.toArray [])))
def o_270 : Params → Obj := (fun P => (Obj.mk (Value.type "tuple") (Option.none) (Data.seq (List.toArray [(Value.str (Str.ofString "patterns") 768), (Value.str (Str.ofString "PATTERN") 769), (Value.str (Str.ofString "+") 770)]) 0) (List.toArray [])))
def o_271 : Params → Obj := (fun P => (Obj.mk (Value.type "tuple") (Option.none) (Data.seq (List.toArray [(Value.ref 234)]) 0) (List.toArray [])))
def o_272 : Params → Obj := (fun P => (Obj.mk (Value.type "tuple") (Option.none) (Data.seq (List.toArray [(Value.str (Str.ofString "keys") 773), (Value.str (Str.ofString "EXPR") 774), (Value.str (Str.ofString "*") 775)]) 0) (List.toArray [])))
def o_273 : Params → Obj := (fun P => (Obj.mk (Value.type "tuple") (Option.none) (Data.seq (List.toArray [(Value.str (Str.ofString "patterns") 776), (Value.str (Str.ofString "PATTERN") 777), (Value.str (Str.ofString "*") 778)]) 0) (List.toArray [])))
def o_274 : Params → Obj := (fun P => (Obj.mk (Value.type "tuple") (Option.none) (Data.seq (List.toArray [(Value.str (Str.ofString "rest") 779), (Value.str (Str.ofString "NAME") 780), (Value.str (Str.ofString "?") 781)]) 0) (List.toArray [])))
def o_275 : Params → Obj := (fun P => (Obj.mk (Value.type "tuple") (Option.none) (Data.seq (List.toArray [(Value.ref 236), (Value.ref 237), (Value.ref 238)]) 0) (List.toArray [])))
def o_276 : Params → Obj := (fun P => (Obj.mk (Value.type "dict") (Option.none) (Data.dict (List.toArray [(DictEntry.mk (PyData.keyHash P (Str.ofString "MatchClass")) (Value.str (Str.ofString "MatchClass") 783) (Value.ref 245)), (DictEntry.mk (PyData.keyHash P (Str.ofString "MatchStar")) (Value.str (Str.ofString "MatchStar") 797) (Value.ref 247)), (DictEntry.mk (PyData.keyHash P (Str.ofString "MatchAs")) (Value.str (Str.ofString "MatchAs") 802) (Value.ref 250)), (DictEntry.mk (PyData.keyHash P (Str.ofString "And")) (Value.str (Str.ofString "And") 810) (Value.ref 251)), (DictEntry.mk (PyData.keyHash P (Str.ofString "Or")) (Value.str (Str.ofString "Or") 812) (Value.ref 252)), (DictEntry.mk (PyData.keyHash P (Str.ofString "Invert")) (Value.str (Str.ofString "Invert") 814) (Value.ref 253)), (DictEntry.mk (PyData.keyHash P (Str.ofString "Not")) (Value.str (Str.ofString "Not") 816) (Value.ref 254)), (DictEntry.mk (PyData.keyHash P (Str.ofString "UAdd")) (Value.str (Str.ofString "UAdd") 818) (Value.ref 255)), (DictEntry.mk (PyData.keyHash P (Str.ofString "USub")) (Value.str (Str.ofString "USub") 820) (Value.ref 256)), (DictEntry.mk (PyData.keyHash P (Str.ofString "Load")) (Value.str (Str.ofString "Load") 822) (Value.ref 257)), (DictEntry.mk (PyData.keyHash P (Str.ofString "Store")) (Value.str (Str.ofString "Store") 824) (Value.ref 258)), (DictEntry.mk (PyData.keyHash P (Str.ofString "Del")) (Value.str (Str.ofString "Del") 826) (Value.ref 259)), (DictEntry.mk (PyData.keyHash P (Str.ofString "Add")) (Value.str (Str.ofString "Add") 828) (Value.ref 260)), (DictEntry.mk (PyData.keyHash P (Str.ofString "Sub")) (Value.str (Str.ofString "Sub") 830) (Value.ref 261)), (DictEntry.mk (PyData.keyHash P (Str.ofString "Mult")) (Value.str (Str.ofString "Mult") 832) (Value.ref 262)), (DictEntry.mk (PyData.keyHash P (Str.ofString "MatMult")) (Value.str (Str.ofString "MatMult") 834) (Value.ref 263)), (DictEntry.mk (PyData.keyHash P (Str.ofString "Div")) (Value.str (Str.ofString "Div") 836) (Value.ref 264))]) 17) (List.toArray [])))
def o_277 : Params → Obj := (fun P => (Obj.mk (Value.type "tuple") (Option.none) (Data.seq (List.toArray [(Value.str (Str.ofString "cls") 784), (Value.str (Str.ofString "EXPR") 785), (Value.str (Str.ofString "") 786)]) 0) (List.toArray [])))
def o_278 : Params → Obj := (fun P => (Obj.mk (Value.type "tuple") (Option.none) (Data.seq (List.toArray [(Value.str (Str.ofString "patterns") 787), (Value.str (Str.ofString "PATTERN") 788), (Value.str (Str.ofString "*") 789)]) 0) (List.toArray [])))
def o_279 : Params → Obj := (fun P => (Obj.mk (Value.type "tuple") (Option.none) (Data.seq (List.toArray [(Value.str (Str.ofString "kwd_attrs") 790), (Value.str (Str.ofString "NAME") 791), (Value.str (Str.ofString "*") 792)]) 0) (List.toArray [])))
def o_280 : Params → Obj := (fun P => (Obj.mk (Value.type "tuple") (Option.none) (Data.seq (List.toArray [(Value.str (Str.ofString "kwd_patterns") 793), (Value.str (Str.ofString "PATTERN") 794), (Value.str (Str.ofString "*") 795)]) 0) (List.toArray [])))
def o_281 : Params → Obj := (fun P => (Obj.mk (Value.type "tuple") (Option.none) (Data.seq (List.toArray [(Value.ref 241), (Value.ref 242), (Value.ref 243), (Value.ref 244)]) 0) (List.toArray [])))
def o_282 : Params → Obj := (fun P => (Obj.mk (Value.type "tuple") (Option.none) (Data.seq (List.toArray [(Value.str (Str.ofString "name") 798), (Value.str (Str.ofString "NAME") 799), (Value.str (Str.ofString "?") 800)]) 0) (List.toArray [])))
def o_283 : Params → Obj := (fun P => (Obj.mk (Value.type "tuple") (Option.none) (Data.seq (List.toArray [(Value.ref 246)]) 0) (List.toArray [])))
def o_284 : Params → Obj := (fun P => (Obj.mk (Value.type "tuple") (Option.none) (Data.seq (List.toArray [(Value.str (Str.ofString "pattern") 803), (Value.str (Str.ofString "PATTERN") 804), (Value.str (Str.ofString "?") 805)]) 0) (List.toArray [])))
def o_285 : Params → Obj := (fun P => (Obj.mk (Value.type "tuple") (Option.none) (Data.seq (List.toArray [(Value.str (Str.ofString "name") 806), (Value.str (Str.ofString "NAME") 807), (Value.str (Str.ofString "?") 808)]) 0) (List.toArray [])))
def o_286 : Params → Obj := (fun P => (Obj.mk (Value.type "tuple") (Option.none) (Data.seq (List.toArray [(Value.ref 248), (Value.ref 249)]) 0) (List.toArray [])))
def o_287 : Params → Obj := (fun P => (Obj.mk (Value.type "tuple") (Option.none) (Data.seq (List.toArray []) 0) (List.toArray [])))
def o_288 : Params → Obj := (fun P => (Obj.mk (Value.type "tuple") (Option.none) (Data.seq (List.toArray []) 0) (List.toArray [])))
def o_289 : Params → Obj := (fun P => (Obj.mk (Value.type "tuple") (Option.none) (Data.seq (List.toArray []) 0) (List.toArray [])))
def o_290 : Params → Obj := (fun P => (Obj.mk (Value.type "tuple") (Option.none) (Data.seq (List.toArray []) 0) (List.toArray [])))
def o_291 : Params → Obj := (fun P => (Obj.mk (Value.type "tuple") (Option.none) (Data.seq (List.toArray []) 0) (List.toArray [])))
def o_292 : Params → Obj := (fun P => (Obj.mk (Value.type "tuple") (Option.none) (Data.seq (List.toArray []) 0) (List.toArray [])))
def o_293 : Params → Obj := (fun P => (Obj.mk (Value.type "tuple") (Option.none) (Data.seq (List.toArray []) 0) (List.toArray [])))
def o_294 : Params → Obj := (fun P => (Obj.mk (Value.type "tuple") (Option.none) (Data.seq (List.toArray []) 0) (List.toArray [])))
def o_295 : Params → Obj := (fun P => (Obj.mk (Value.type "tuple") (Option.none) (Data.seq (List.toArray []) 0) (List.toArray [])))
def o_296 : Params → Obj := (fun P => (Obj.mk (Value.type "tuple") (Option.none) (Data.seq (List.toArray []) 0) (List.toArray [])))
def o_297 : Params → Obj := (fun P => (Obj.mk (Value.type "tuple") (Option.none) (Data.seq (List.toArray []) 0) (List.toArray [])))
def o_298 : Params → Obj := (fun P => (Obj.mk (Value.type "tuple") (Option.none) (Data.seq (List.toArray []) 0) (List.toArray [])))
def o_299 : Params → Obj := (fun P => (Obj.mk (Value.type "tuple") (Option.none) (Data.seq (List.toArray []) 0) (List.toArray [])))
def o_300 : Params → Obj := (fun P => (Obj.mk (Value.type "tuple") (Option.none) (Data.seq (List.toArray []) 0) (List.toArray [])))
def o_301 : Params → Obj := (fun P => (Obj.mk (Value.type "dict") (Option.none) (Data.dict (List.toArray [(DictEntry.mk (PyData.keyHash P (Str.ofString "FloorDiv")) (Value.str (Str.ofString "FloorDiv") 838) (Value.ref 266)), (DictEntry.mk (PyData.keyHash P (Str.ofString "Pow")) (Value.str (Str.ofString "Pow") 840) (Value.ref 267)), (DictEntry.mk (PyData.keyHash P (Str.ofString "LShift")) (Value.str (Str.ofString "LShift") 842) (Value.ref 268)), (DictEntry.mk (PyData.keyHash P (Str.ofString "RShift")) (Value.str (Str.ofString "RShift") 844) (Value.ref 269)), (DictEntry.mk (PyData.keyHash P (Str.ofString "BitOr")) (Value.str (Str.ofString "BitOr") 846) (Value.ref 270)), (DictEntry.mk (PyData.keyHash P (Str.ofString "BitXor")) (Value.str (Str.ofString "BitXor") 848) (Value.ref 271)), (DictEntry.mk (PyData.keyHash P (Str.ofString "BitAnd")) (Value.str (Str.ofString "BitAnd") 850) (Value.ref 272)), (DictEntry.mk (PyData.keyHash P (Str.ofString "Eq")) (Value.str (Str.ofString "Eq") 852) (Value.ref 273)), (DictEntry.mk (PyData.keyHash P (Str.ofString "NotEq")) (Value.str (Str.ofString "NotEq") 854) (Value.ref 274)), (DictEntry.mk (PyData.keyHash P (Str.ofString "Lt")) (Value.str (Str.ofString "Lt") 856) (Value.ref 275)), (DictEntry.mk (PyData.keyHash P (Str.ofString "LtE")) (Value.str (Str.ofString "LtE") 858) (Value.ref 276)), (DictEntry.mk (PyData.keyHash P (Str.ofString "Gt")) (Value.str (Str.ofString "Gt") 860) (Value.ref 277)), (DictEntry.mk (PyData.keyHash P (Str.ofString "GtE")) (Value.str (Str.ofString "GtE") 862) (Value.ref 278)), (DictEntry.mk (PyData.keyHash P (Str.ofString "Is")) (Value.str (Str.ofString "Is") 864) (Value.ref 279)), (DictEntry.mk (PyData.keyHash P (Str.ofString "IsNot")) (Value.str (Str.ofString "IsNot") 866) (Value.ref 280)), (DictEntry.mk (PyData.keyHash P (Str.ofString "In")) (Value.str (Str.ofString "In") 868) (Value.ref 281)), (DictEntry.mk (PyData.keyHash P (Str.ofString "NotIn")) (Value.str (Str.ofString "NotIn") 870) (Value.ref 282))]) 17) (List.toArray [])))
def o_302 : Params → Obj := (fun P => (Obj.mk (Value.type "tuple") (Option.none) (Data.seq (List.toArray []) 0) (List.toArray [])))
def o_303 : Params → Obj := (fun P => (Obj.mk (Value.type "tuple") (Option.none) (Data.seq (List.toArray []) 0) (List.toArray [])))
def o_304 : Params → Obj := (fun P => (Obj.mk (Value.type "tuple") (Option.none) (Data.seq (List.toArray []) 0) (List.toArray [])))
def o_305 : Params → Obj := (fun P => (Obj.mk (Value.type "tuple") (Option.none) (Data.seq (List.toArray []) 0) (List.toArray [])))
def o_306 : Params → Obj := (fun P => (Obj.mk (Value.type "tuple") (Option.none) (Data.seq (List.toArray []) 0) (List.toArray [])))
def o_307 : Params → Obj := (fun P => (Obj.mk (Value.type "tuple") (Option.none) (Data.seq (List.toArray []) 0) (List.toArray [])))
def o_308 : Params → Obj := (fun P => (Obj.mk (Value.type "tuple") (Option.none) (Data.seq (List.toArray []) 0) (List.toArray [])))
def o_309 : Params → Obj := (fun P => (Obj.mk (Value.type "tuple") (Option.none) (Data.seq (List.toArray []) 0) (List.toArray [])))
def o_310 : Params → Obj := (fun P => (Obj.mk (Value.type "tuple") (Option.none) (Data.seq (List.toArray []) 0) (List.toArray [])))
def o_311 : Params → Obj := (fun P => (Obj.mk (Value.type "tuple") (Option.none) (Data.seq (List.toArray []) 0) (List.toArray [])))
def o_312 : Params → Obj := (fun P => (Obj.mk (Value.type "tuple") (Option.none) (Data.seq (List.toArray []) 0) (List.toArray [])))
def o_313 : Params → Obj := (fun P => (Obj.mk (Value.type "tuple") (Option.none) (Data.seq (List.toArray []) 0) (List.toArray [])))
def o_314 : Params → Obj := (fun P => (Obj.mk (Value.type "tuple") (Option.none) (Data.seq (List.toArray []) 0) (List.toArray [])))
def o_315 : Params → Obj := (fun P => (Obj.mk (Value.type "tuple") (Option.none) (Data.seq (List.toArray []) 0) (List.toArray [])))
def o_316 : Params → Obj := (fun P => (Obj.mk (Value.type "tuple") (Option.none) (Data.seq (List.toArray []) 0) (List.toArray [])))
def o_317 : Params → Obj := (fun P => (Obj.mk (Value.type "tuple") (Option.none) (Data.seq (List.toArray []) 0) (List.toArray [])))
def o_318 : Params → Obj := (fun P => (Obj.mk (Value.type "tuple") (Option.none) (Data.seq (List.toArray []) 0) (List.toArray [])))
def heap_46 : Params → Heap := (fun P => (Heap.mk (Array.mk [(boot_o_0 P), (boot_o_1 P), (boot_o_2 P), (boot_o_3 P), (boot_o_4 P), (boot_o_5 P), (boot_o_6 P), (boot_o_7 P), (boot_o_8 P), (boot_o_9 P), (boot_o_10 P), (o_43 P), (o_44 P), (o_45 P), (o_46 P)]) (Life.mk [] [] [] 0 [] [] Bool.false (List.toArray []) [] 0 Bool.false Bool.false Bool.false 0 [2000, 10, 10] Bool.false 0 Bool.true [] [] 0 Bool.false)))
def tree_47 : Params → BT := (fun P => (BT.node (boot_o_0 P) (BT.node (boot_o_1 P) (BT.node (boot_o_3 P) (BT.node (boot_o_7 P) BT.nil BT.nil) (BT.node (o_43 P) BT.nil BT.nil)) (BT.node (boot_o_5 P) (BT.node (boot_o_9 P) BT.nil BT.nil) (BT.node (o_45 P) BT.nil BT.nil))) (BT.node (boot_o_2 P) (BT.node (boot_o_4 P) (BT.node (boot_o_8 P) BT.nil BT.nil) (BT.node (o_44 P) BT.nil BT.nil)) (BT.node (boot_o_6 P) (BT.node (boot_o_10 P) BT.nil BT.nil) (BT.node (o_46 P) BT.nil BT.nil)))))
def tree_318 : Params → BT := (fun P => (BT.node (boot_o_0 P) (BT.node (boot_o_1 P) (BT.node (o_51 P) (BT.node (boot_o_7 P) (BT.node (o_50 P) (BT.node (o_67 P) (BT.node (o_99 P) (BT.node (o_163 P) (BT.node (o_291 P) BT.nil BT.nil) BT.nil) (BT.node (o_227 P) BT.nil BT.nil)) (BT.node (o_131 P) (BT.node (o_195 P) BT.nil BT.nil) (BT.node (o_259 P) BT.nil BT.nil))) (BT.node (o_83 P) (BT.node (o_115 P) (BT.node (o_179 P) (BT.node (o_307 P) BT.nil BT.nil) BT.nil) (BT.node (o_243 P) BT.nil BT.nil)) (BT.node (o_147 P) (BT.node (o_211 P) BT.nil BT.nil) (BT.node (o_275 P) BT.nil BT.nil)))) (BT.node (o_59 P) (BT.node (o_75 P) (BT.node (o_107 P) (BT.node (o_171 P) (BT.node (o_299 P) BT.nil BT.nil) BT.nil) (BT.node (o_235 P) BT.nil BT.nil)) (BT.node (o_139 P) (BT.node (o_203 P) BT.nil BT.nil) (BT.node (o_267 P) BT.nil BT.nil))) (BT.node (o_91 P) (BT.node (o_123 P) (BT.node (o_187 P) (BT.node (o_315 P) BT.nil BT.nil) BT.nil) (BT.node (o_251 P) BT.nil BT.nil)) (BT.node (o_155 P) (BT.node (o_219 P) BT.nil BT.nil) (BT.node (o_283 P) BT.nil BT.nil))))) (BT.node (o_43 P) (BT.node (o_55 P) (BT.node (o_71 P) (BT.node (o_103 P) (BT.node (o_167 P) (BT.node (o_295 P) BT.nil BT.nil) BT.nil) (BT.node (o_231 P) BT.nil BT.nil)) (BT.node (o_135 P) (BT.node (o_199 P) BT.nil BT.nil) (BT.node (o_263 P) BT.nil BT.nil))) (BT.node (o_87 P) (BT.node (o_119 P) (BT.node (o_183 P) (BT.node (o_311 P) BT.nil BT.nil) BT.nil) (BT.node (o_247 P) BT.nil BT.nil)) (BT.node (o_151 P) (BT.node (o_215 P) BT.nil BT.nil) (BT.node (o_279 P) BT.nil BT.nil)))) (BT.node (o_63 P) (BT.node (o_79 P) (BT.node (o_111 P) (BT.node (o_175 P) (BT.node (o_303 P) BT.nil BT.nil) BT.nil) (BT.node (o_239 P) BT.nil BT.nil)) (BT.node (o_143 P) (BT.node (o_207 P) BT.nil BT.nil) (BT.node (o_271 P) BT.nil BT.nil))) (BT.node (o_95 P) (BT.node (o_127 P) (BT.node (o_191 P) BT.nil BT.nil) (BT.node (o_255 P) BT.nil BT.nil)) (BT.node (o_159 P) (BT.node (o_223 P) BT.nil BT.nil) (BT.node (o_287 P) BT.nil BT.nil)))))) (BT.node (boot_o_5 P) (BT.node (boot_o_9 P) (BT.node (o_53 P) (BT.node (o_69 P) (BT.node (o_101 P) (BT.node (o_165 P) (BT.node (o_293 P) BT.nil BT.nil) BT.nil) (BT.node (o_229 P) BT.nil BT.nil)) (BT.node (o_133 P) (BT.node (o_197 P) BT.nil BT.nil) (BT.node (o_261 P) BT.nil BT.nil))) (BT.node (o_85 P) (BT.node (o_117 P) (BT.node (o_181 P) (BT.node (o_309 P) BT.nil BT.nil) BT.nil) (BT.node (o_245 P) BT.nil BT.nil)) (BT.node (o_149 P) (BT.node (o_213 P) BT.nil BT.nil) (BT.node (o_277 P) BT.nil BT.nil)))) (BT.node (o_61 P) (BT.node (o_77 P) (BT.node (o_109 P) (BT.node (o_173 P) (BT.node (o_301 P) BT.nil BT.nil) BT.nil) (BT.node (o_237 P) BT.nil BT.nil)) (BT.node (o_141 P) (BT.node (o_205 P) BT.nil BT.nil) (BT.node (o_269 P) BT.nil BT.nil))) (BT.node (o_93 P) (BT.node (o_125 P) (BT.node (o_189 P) (BT.node (o_317 P) BT.nil BT.nil) BT.nil) (BT.node (o_253 P) BT.nil BT.nil)) (BT.node (o_157 P) (BT.node (o_221 P) BT.nil BT.nil) (BT.node (o_285 P) BT.nil BT.nil))))) (BT.node (o_45 P) (BT.node (o_57 P) (BT.node (o_73 P) (BT.node (o_105 P) (BT.node (o_169 P) (BT.node (o_297 P) BT.nil BT.nil) BT.nil) (BT.node (o_233 P) BT.nil BT.nil)) (BT.node (o_137 P) (BT.node (o_201 P) BT.nil BT.nil) (BT.node (o_265 P) BT.nil BT.nil))) (BT.node (o_89 P) (BT.node (o_121 P) (BT.node (o_185 P) (BT.node (o_313 P) BT.nil BT.nil) BT.nil) (BT.node (o_249 P) BT.nil BT.nil)) (BT.node (o_153 P) (BT.node (o_217 P) BT.nil BT.nil) (BT.node (o_281 P) BT.nil BT.nil)))) (BT.node (o_65 P) (BT.node (o_81 P) (BT.node (o_113 P) (BT.node (o_177 P) (BT.node (o_305 P) BT.nil BT.nil) BT.nil) (BT.node (o_241 P) BT.nil BT.nil)) (BT.node (o_145 P) (BT.node (o_209 P) BT.nil BT.nil) (BT.node (o_273 P) BT.nil BT.nil))) (BT.node (o_97 P) (BT.node (o_129 P) (BT.node (o_193 P) BT.nil BT.nil) (BT.node (o_257 P) BT.nil BT.nil)) (BT.node (o_161 P) (BT.node (o_225 P) BT.nil BT.nil) (BT.node (o_289 P) BT.nil BT.nil))))))) (BT.node (boot_o_2 P) (BT.node (boot_o_4 P) (BT.node (boot_o_8 P) (BT.node (o_52 P) (BT.node (o_68 P) (BT.node (o_100 P) (BT.node (o_164 P) (BT.node (o_292 P) BT.nil BT.nil) BT.nil) (BT.node (o_228 P) BT.nil BT.nil)) (BT.node (o_132 P) (BT.node (o_196 P) BT.nil BT.nil) (BT.node (o_260 P) BT.nil BT.nil))) (BT.node (o_84 P) (BT.node (o_116 P) (BT.node (o_180 P) (BT.node (o_308 P) BT.nil BT.nil) BT.nil) (BT.node (o_244 P) BT.nil BT.nil)) (BT.node (o_148 P) (BT.node (o_212 P) BT.nil BT.nil) (BT.node (o_276 P) BT.nil BT.nil)))) (BT.node (o_60 P) (BT.node (o_76 P) (BT.node (o_108 P) (BT.node (o_172 P) (BT.node (o_300 P) BT.nil BT.nil) BT.nil) (BT.node (o_236 P) BT.nil BT.nil)) (BT.node (o_140 P) (BT.node (o_204 P) BT.nil BT.nil) (BT.node (o_268 P) BT.nil BT.nil))) (BT.node (o_92 P) (BT.node (o_124 P) (BT.node (o_188 P) (BT.node (o_316 P) BT.nil BT.nil) BT.nil) (BT.node (o_252 P) BT.nil BT.nil)) (BT.node (o_156 P) (BT.node (o_220 P) BT.nil BT.nil) (BT.node (o_284 P) BT.nil BT.nil))))) (BT.node (o_44 P) (BT.node (o_56 P) (BT.node (o_72 P) (BT.node (o_104 P) (BT.node (o_168 P) (BT.node (o_296 P) BT.nil BT.nil) BT.nil) (BT.node (o_232 P) BT.nil BT.nil)) (BT.node (o_136 P) (BT.node (o_200 P) BT.nil BT.nil) (BT.node (o_264 P) BT.nil BT.nil))) (BT.node (o_88 P) (BT.node (o_120 P) (BT.node (o_184 P) (BT.node (o_312 P) BT.nil BT.nil) BT.nil) (BT.node (o_248 P) BT.nil BT.nil)) (BT.node (o_152 P) (BT.node (o_216 P) BT.nil BT.nil) (BT.node (o_280 P) BT.nil BT.nil)))) (BT.node (o_64 P) (BT.node (o_80 P) (BT.node (o_112 P) (BT.node (o_176 P) (BT.node (o_304 P) BT.nil BT.nil) BT.nil) (BT.node (o_240 P) BT.nil BT.nil)) (BT.node (o_144 P) (BT.node (o_208 P) BT.nil BT.nil) (BT.node (o_272 P) BT.nil BT.nil))) (BT.node (o_96 P) (BT.node (o_128 P) (BT.node (o_192 P) BT.nil BT.nil) (BT.node (o_256 P) BT.nil BT.nil)) (BT.node (o_160 P) (BT.node (o_224 P) BT.nil BT.nil) (BT.node (o_288 P) BT.nil BT.nil)))))) (BT.node (boot_o_6 P) (BT.node (boot_o_10 P) (BT.node (o_54 P) (BT.node (o_70 P) (BT.node (o_102 P) (BT.node (o_166 P) (BT.node (o_294 P) BT.nil BT.nil) BT.nil) (BT.node (o_230 P) BT.nil BT.nil)) (BT.node (o_134 P) (BT.node (o_198 P) BT.nil BT.nil) (BT.node (o_262 P) BT.nil BT.nil))) (BT.node (o_86 P) (BT.node (o_118 P) (BT.node (o_182 P) (BT.node (o_310 P) BT.nil BT.nil) BT.nil) (BT.node (o_246 P) BT.nil BT.nil)) (BT.node (o_150 P) (BT.node (o_214 P) BT.nil BT.nil) (BT.node (o_278 P) BT.nil BT.nil)))) (BT.node (o_62 P) (BT.node (o_78 P) (BT.node (o_110 P) (BT.node (o_174 P) (BT.node (o_302 P) BT.nil BT.nil) BT.nil) (BT.node (o_238 P) BT.nil BT.nil)) (BT.node (o_142 P) (BT.node (o_206 P) BT.nil BT.nil) (BT.node (o_270 P) BT.nil BT.nil))) (BT.node (o_94 P) (BT.node (o_126 P) (BT.node (o_190 P) (BT.node (o_318 P) BT.nil BT.nil) BT.nil) (BT.node (o_254 P) BT.nil BT.nil)) (BT.node (o_158 P) (BT.node (o_222 P) BT.nil BT.nil) (BT.node (o_286 P) BT.nil BT.nil))))) (BT.node (o_46 P) (BT.node (o_58 P) (BT.node (o_74 P) (BT.node (o_106 P) (BT.node (o_170 P) (BT.node (o_298 P) BT.nil BT.nil) BT.nil) (BT.node (o_234 P) BT.nil BT.nil)) (BT.node (o_138 P) (BT.node (o_202 P) BT.nil BT.nil) (BT.node (o_266 P) BT.nil BT.nil))) (BT.node (o_90 P) (BT.node (o_122 P) (BT.node (o_186 P) (BT.node (o_314 P) BT.nil BT.nil) BT.nil) (BT.node (o_250 P) BT.nil BT.nil)) (BT.node (o_154 P) (BT.node (o_218 P) BT.nil BT.nil) (BT.node (o_282 P) BT.nil BT.nil)))) (BT.node (o_66 P) (BT.node (o_82 P) (BT.node (o_114 P) (BT.node (o_178 P) (BT.node (o_306 P) BT.nil BT.nil) BT.nil) (BT.node (o_242 P) BT.nil BT.nil)) (BT.node (o_146 P) (BT.node (o_210 P) BT.nil BT.nil) (BT.node (o_274 P) BT.nil BT.nil))) (BT.node (o_98 P) (BT.node (o_130 P) (BT.node (o_194 P) BT.nil BT.nil) (BT.node (o_258 P) BT.nil BT.nil)) (BT.node (o_162 P) (BT.node (o_226 P) BT.nil BT.nil) (BT.node (o_290 P) BT.nil BT.nil)))))))))
abbrev ps0 : Pos := ⟨0, 0, 0, 0⟩
abbrev dr0 : Drawn := ⟨0, 0, 0, 0⟩
def envM : Env := { scope := PG.main.scope, locals := mainNs, globals := mainNs, cells := [], code := .ref 13, frame := some 14 }
abbrev cB : Code := .body (behindTheImports PG) envM
abbrev frB : List Frame := [topFrame ps0]
abbrev bootS (w : World) (os : OsState) : Shared := ⟨boot_heap w.params, #[], boot_drawn, boot_toks, os⟩
def sa (w : World) (os : OsState) : Shared := ⟨heap_46 w.params, #[], dr0, 187, os⟩
def sb (w : World) (os : OsState) : SharedT := ⟨tree_47 w.params, 15, lifeF, #[], dr0, 187, os⟩
/-- behind the first two statements -/
def sf (w : World) (os : OsState) : SharedT := ⟨tree_318 w.params, 283, lifeF, #[], dr0, 873, os⟩
theorem runPre (w : World) (os : OsState) : topGo treeTable PG w 11 (some (.ref 6)) 12 (bootS w os) (topStub PG) = some (sa w os, ⟨denote treeTable cB, cB, ps0, frB⟩) := by kernel_rfl
theorem runBlk (w : World) (os : OsState) : segRun treeTable PG w 11 (some (.ref 6)) 1 1 (sa w os) (blockOf (behindTheImports PG) envM cB ps0 frB) = some (.next, (sb w os).abs, cB, ps0) := by kernel_rfl
def first : List Stmt := (behindTheImports PG).take 2
abbrev exQ : List Stmt → Env → Sem Flow := PySem.W.Fast.tw12563942051412417395
abbrev Two (w : World) : Prop := ∀ os : OsState, PySem.W.Fast.tw10110043849684766642 HandSHeadRun.tabQ PG w 11 (some (.ref 6)) 1 3010 (sb w os) ⟨(exQ first envM).wrap doneF deadEnd id id, cB, ps0, frB⟩ = some (.next, sf w os, cB, ⟨2, 0, 2, 6⟩)
theorem two0 (w : World) (os : OsState) : PySem.W.Fast.tw10110043849684766642 HandSHeadRun.tabQ PG (w.withFollow "special-get-raises" false) 11 (some (.ref 6)) 1 3010 (sb (w.withFollow "special-get-raises" false) os) ⟨(exQ first envM).wrap doneF deadEnd id id, cB, ps0, frB⟩ = some (.next, sf (w.withFollow "special-get-raises" false) os, cB, ⟨2, 0, 2, 6⟩) := by kernel_rfl
theorem two1 (w : World) (os : OsState) : PySem.W.Fast.tw10110043849684766642 HandSHeadRun.tabQ PG (w.withFollow "special-get-raises" true) 11 (some (.ref 6)) 1 3010 (sb (w.withFollow "special-get-raises" true) os) ⟨(exQ first envM).wrap doneF deadEnd id id, cB, ps0, frB⟩ = some (.next, sf (w.withFollow "special-get-raises" true) os, cB, ⟨2, 0, 2, 6⟩) := by kernel_rfl
theorem runTwo (w : World) : Two w := byRow2 "special-get-raises" (P := Two) two0 two1 w
end HDR

noncomputable section
namespace HDR
open PySem PySem.W PySem.Calls PyProof.Rows HandSHeadRun
def rest2 : List Stmt := (behindTheImports PG).drop 2
abbrev qv : Program := view PG [46]
def nmA : List PySem.Str := ["LIST_MARKS", "FIELDS", "TreeError", "BadKind", "BadField", "BadNode", "Dots", "Float", "Imaginary", "Octets", "ATTRIBUTES", "Node", "_default", "fields_of", "check_node", "nodes_of", "walk", "iter_child_nodes", "iter_fields"]
def nmB : List PySem.Str := ["_law_draw", "_law_pick", "_law_table", "_law_pattern_table", "_law_fields", "_law_group", "_law_constants", "_law_spot", "_law_part", "_law_model", "_law_made_part", "_law_node", "_law_below", "_law_models", "_law_is_part", "_law_is_so", "_law_odd_part", "_law_bent", "_law_is_refused", "_law_told_right", "_law_changed", "_law_great_right"]
def names : List PySem.Str := nmA ++ nmB
abbrev thB : Thread := ⟨(exQ rest2 envM).wrap doneF (leaveH envM) id id, cB, ⟨2, 0, 2, 6⟩, frB⟩
end HDR

noncomputable section
namespace HDR
open PySem PySem.W PySem.Calls PyProof.Rows HandSHeadRun
/-- what the whole top comes to, from the run behind the first two statements -/
theorem whole {w : World} {os : OsState} {N : Nat} {z : SharedT} (h : goF (stepQ (denQ tabQ) PG w) 11 (some (.ref 6)) N (sf w os) thB = some z) :
    topRun treeTable PG w 11 (some (.ref 6)) (12 + (1 + (3010 + N))) (bootS w os) (topStub PG) = some z.abs := by
  have e1 : stepQ (denQ tabQ) PG w = stepT (denote treeTable) PG w := by rw [← stepQ_eq, ← denQ_eq, ← tabQ_eq]
  rw [e1] at h
  have h1 := goF_ok h
  have ex : exQ = execs := PySem.W.Fast.te12563942051412417395.symm
  have t2 := runTwo w os
  rw [ex, ← PySem.W.Fast.te10110043849684766642, ← tabQ_eq] at t2
  have t3 := segRun_of t2
  have e2 : thB = restOf rest2 envM cB ⟨2, 0, 2, 6⟩ frB := by unfold thB restOf; rw [ex]
  rw [e2] at h1
  have t4 := piece_app t3 h1
  have e3 : first ++ rest2 = behindTheImports PG := List.take_append_drop 2 _
  rw [e3] at t4
  exact go_top (runPre w os) (piece_block (runBlk w os) t4)
theorem annB (w : World) : bootAnn w = some (.ref 6) := by
  unfold bootAnn
  kernel_rfl
theorem sizeB (w : World) : (boot_heap w.params).objs.size = 11 := by kernel_rfl
end HDR

namespace M4
open PySem PySem.Spec PyProof.Rows L2
def topS (i : Nat) : Stmt := PySem.Challenge.pw_treequill_k74_walk_and_children.main.body.getD i (.Pass ⟨0, 0, 0, 0⟩)
abbrev sDraw : Stmt := topS 24
abbrev sPick : Stmt := topS 25
theorem scDraw : FnScope ["_law_stream", "_law_many", "_law_digit", "_law_mixed", "_law_last"] ["_law_stream", "_law_many"] (defScope sDraw) := ⟨rfl, rfl, rfl, by decide +kernel, rfl, by decide +kernel, by decide +kernel⟩
theorem scPick : FnScope ["_law_stream", "_law_some"] ["_law_stream", "_law_some"] (defScope sPick) := ⟨rfl, rfl, rfl, by decide +kernel, rfl, by decide +kernel, by decide +kernel⟩
/-- the stream's state: what is left of the cells, the great cell at hand, how many were mixed, the mixed number -/
structure Stm where
  cells : List Int
  cur : Int
  cnt : Int
  mix : Int
structure StmAt (H : Hp) (a c : Addr) (S : Stm) : Prop where
  lst : H a = some (.lst [.ref c, .int S.cur, .int S.cnt, .int S.mix])
  cel : H c = some (.lst (S.cells.map V.int))
  ne : a ≠ c
  len : S.cells.length ≤ 63
  cur0 : 0 ≤ S.cur
  cnt0 : 0 ≤ S.cnt
  mix0 : 0 ≤ S.mix
  mix1 : S.mix < 2147483647
/-- all that stood but the stream stands -/
def Kept (a c : Addr) (H H' : Hp) : Prop := ∀ b o, b ≠ a → b ≠ c → H b = some o → H' b = some o
theorem Kept.refl (a c : Addr) (H : Hp) : Kept a c H H := fun _ _ _ _ h => h
theorem Kept.trans {a c : Addr} {H H1 H2 : Hp} (x : Kept a c H H1) (y : Kept a c H1 H2) : Kept a c H H2 := fun b o n1 n2 h => y b o n1 n2 (x b o n1 n2 h)
theorem Kept.updA {a c : Addr} {H H1 : Hp} {o : HO} (x : Kept a c H H1) : Kept a c H (upd H1 a o) := fun b u n1 n2 h => by
  rw [upd_ne n1]; exact x b u n1 n2 h
theorem Kept.updC {a c : Addr} {H H1 : Hp} {o : HO} (x : Kept a c H H1) : Kept a c H (upd H1 c o) := fun b u n1 n2 h => by
  rw [upd_ne n2]; exact x b u n1 n2 h
theorem Kept.new {a c p : Addr} {H H1 : Hp} {o : HO} (x : Kept a c H H1) (h : H1 p = none) : Kept a c H (upd H1 p o) := fun b u n1 n2 e => by
  rw [upd_ne (ne_of_none (x b u n1 n2 e) h)]; exact x b u n1 n2 e
theorem Kept.same {a c : Addr} {H H1 : Hp} (x : Same H H1) : Kept a c H H1 := fun b u _ _ h => x b u h
def spDraw : Sp := fun vs H Q _ => ∃ (a c : Addr) (S : Stm) (m : Int), vs = [.ref a, .int m] ∧ StmAt H a c S ∧ S.cnt < 1000000 ∧ 0 < m ∧ m < 1000000 ∧
  ∀ (H' : Hp) (S' : Stm) (r : Int), StmAt H' a c S' → S'.cnt ≤ S.cnt + 1 → Kept a c H H' → 0 ≤ r → r < m → Q (.int r) H'
theorem dp_ints {K : PySem.W.Frag} {H : Hp} : ∀ ns : List Int, DpAll K H (ns.map V.int) (ns.map PyData.int)
  | [] => .nil
  | n :: r => .cons (.int n) (dp_ints r)
theorem shaped_ints (ns : List Int) : SeqAt.shaped (.list (ns.map PyData.int)) = true := by first | exact ke_shaped_ints ns | exact PySem.W.ke_shaped_ints ns | exact PyProof.Rows.ke_shaped_ints ns
theorem eqv_ints_nil : ∀ ns : List Int, PyData.eqv (.list (ns.map PyData.int)) (.list []) = ns.isEmpty
  | [] => rfl
  | _ :: _ => rfl
section
variable {P : Program} {w : World} {K : PySem.W.Frag} {mg : Str → Option Value} {base : Heap}
theorem ok_draw {f : Addr} {fd : FuncData} (F : Fun K "_law_draw" "_law_draw" sDraw f fd) (mi : mg "int" = none) : FnOk P w K mg base CX0 1 f fd ["_law_stream", "_law_many"] spDraw := by
  refine F.ok scDraw (fun vs H Q E h => ?_) (fun cdv A outer s H vs Q E hr h => ?_)
  · obtain ⟨a, c, S, m, rfl, _⟩ := h
    rfl
  obtain ⟨a, c, S, m, rfl, hS, hcnt, hm0, hm1, q⟩ := h
  refine ⟨_, C8.pss_cut (ps_while PassesOwn.never
      (PW.pt (pw_and (pt_cmpR op_eq (pe_ix ix_list (pv 0) pe_int (fun _ _ => rfl)) pe_int (nomark _))
        (pw_and1 (pt_cmpR (op_neD hr.units) (pe_ix ix_list (pv 0) pe_int (fun _ _ => rfl)) (pe_lst pa_nil) (nomark _)))))
      (pss_cons (ps_asg (pe_bm PySem.F.plainAttrs_list PySem.F.slot_list_pop PySem.F.type_list_pop mt_popAt (pe_ix ix_list (pv 0) pe_int (fun _ _ => rfl)) (pa_cons pe_int pa_nil)) (pg_sub (pv 0) pe_int set_list))
      (pss_one (ps_if (pt_cmpR op_lt (pe_ix ix_list (pv 0) pe_int (fun _ _ => rfl)) (pe_op op_pow pe_int pe_int) (nomark _))
        (pss_cons (ps_asg (pe_op op_mod (pe_callTy call_int1 (by rfl) mi (by decide +kernel) (pa_cons (pe_op op_add (pe_op op_add (pe_op op_mul (pe_ix ix_list (pv 0) pe_int (fun _ _ => rfl)) pe_int) (pe_ix ix_list (pv 0) pe_int (fun _ _ => rfl))) pe_int) pa_nil)) pe_int) (pg_sub (pv 0) pe_int set_list))
        (pss_one (ps_asg pe_int (pg_sub (pv 0) pe_int set_list)))) pss_nil))))
    (pss_cons (ps_if (pt_cmpR op_gt (pe_ix ix_list (pv 0) pe_int (fun _ _ => rfl)) pe_int (nomark _))
        (pss_cons (ps_set (i := 2) scDraw.nd rfl (.inl rfl) (pe_op op_mod (pe_callTy call_int1 (by rfl) mi (by decide +kernel) (pa_cons (pe_ix ix_list (pv 0) pe_int (fun _ _ => rfl)) pa_nil)) (pv 1)))
        (pss_cons (ps_asg (pe_op op_fdivN (pe_ix ix_list (pv 0) pe_int (fun _ _ => rfl)) (pv 1)) (pg_sub (pv 0) pe_int set_list))
        (pss_one (ps_ret (pv 2))))) pss_nil)
    (pss_cons (ps_asg (pe_op op_add (pe_ix ix_list (pv 0) pe_int (fun _ _ => rfl)) pe_int) (pg_sub (pv 0) pe_int set_list))
    (pss_cons (ps_set (i := 3) scDraw.nd rfl (.inl rfl) (pe_op op_mod (pe_callTy call_int1 (by rfl) mi (by decide +kernel) (pa_cons (pe_op op_pow (pe_op op_add (pe_op op_add (pe_ix ix_list (pv 0) pe_int (fun _ _ => rfl)) (pe_op op_mul pe_int (pe_ix ix_list (pv 0) pe_int (fun _ _ => rfl)))) pe_int) pe_int) pa_nil)) pe_int))
    (pss_cons (ps_set (i := 4) scDraw.nd rfl (.inl rfl) (pe_op op_mod (pe_callTy call_int1 (by rfl) mi (by decide +kernel) (pa_cons (pe_op op_pow (pe_op op_add (pe_op op_add (pe_op op_mul (pv 3) pe_int) (pe_op op_mul (pe_op op_mul pe_int (pe_ix ix_list (pv 0) pe_int (fun _ _ => rfl))) (pe_ix ix_list (pv 0) pe_int (fun _ _ => rfl)))) pe_int) pe_int) pa_nil)) pe_int))
    (pss_one (ps_ret (pe_op op_mod (pe_callTy call_int1 (by rfl) mi (by decide +kernel) (pa_cons (pv 4) pa_nil)) (pv 1)))))))), ?_⟩
  refine ⟨fun σ H1 => ∃ S1 : Stm, σ = [some (.ref a), some (.int m), none, none, none] ∧ StmAt H1 a c S1 ∧ S1.cnt = S.cnt ∧ Kept a c H H1,
    ⟨fun n σ H1 => ∃ S1 : Stm, σ = [some (.ref a), some (.int m), none, none, none] ∧ StmAt H1 a c S1 ∧ S1.cnt = S.cnt ∧ Kept a c H H1 ∧ S1.cells.length = n, ⟨_, S, rfl, hS, rfl, .refl _ _ _, rfl⟩, ?_⟩, ?_⟩
  · rintro n σ H1 ⟨S1, rfl, h1, ec, k1, el⟩
    refine ⟨_, rfl, a, _, _, _, rfl, rfl, SqL.of h1.lst, rfl, rfl, _, rfl, ?_⟩
    have l0 := h1.cur0
    have l1 := h1.cnt0
    have l2 := h1.mix0
    have l3 := h1.mix1
    refine ite2 (fun c1 => ?_) (fun c1 => ?_)
    · -- the cells: != []
      have c1' : S1.cur = 0 := by simpa using c1
      refine ⟨_, rfl, a, _, _, _, rfl, rfl, SqL.of h1.lst, rfl, Nat.zero_le _, fun l nl => ?_⟩
      have na : a ≠ l := ne_of_none h1.lst nl
      have nc : c ≠ l := ne_of_none h1.cel nl
      have h2 : StmAt (upd H1 l (.lst [])) a c S1 := ⟨by rw [upd_ne na]; exact h1.lst, by rw [upd_ne nc]; exact h1.cel, h1.ne, h1.len, h1.cur0, h1.cnt0, h1.mix0, h1.mix1⟩
      have k2 : Kept a c H (upd H1 l (.lst [])) := k1.new nl
      refine ⟨_, _, .lst (SqL.of h2.cel) (dp_ints S1.cells), .lst (SqL.of upd_same) .nil, shaped_ints _, rfl, _, rfl, ?_⟩
      rw [eqv_ints_nil]
      generalize upd H1 l (.lst []) = H2 at h2 k2
      cases hS1 : S1.cells with
      | nil =>
        refine iteF ?_
        exact ⟨S1, rfl, h2, ec, k2⟩
      | cons v r =>
        refine iteT ?_
        refine ⟨fun σ' H' => ∃ S3 : Stm, σ' = [some (.ref a), some (.int m), none, none, none] ∧ StmAt H' a c S3 ∧ S3.cnt = S.cnt ∧ Kept a c H H' ∧ S3.cells.length < n, fun σ' H' ⟨S3, e, h3, e3, k3, l3⟩ => ⟨_, l3, S3, e, h3, e3, k3, rfl⟩, ?_⟩
        have eL : S1.cells.length = r.length + 1 := by rw [hS1]; rfl
        have hcel : H2 c = some (.lst (.int v :: r.map V.int)) := by have := h2.cel; rw [hS1] at this; exact this
        have h63 := h1.len
        -- pop(0), the store
        refine ⟨_, rfl, a, _, _, _, rfl, rfl, SqL.of h2.lst, rfl, .inl ⟨rfl, _, SqL.of hcel⟩, c, _, 0, 0, _, rfl, rfl, hcel, by decide, by decide, ?_, rfl, ?_⟩
        · show (if (decide (0 ≤ (0 : Int)) && decide ((0 : Int) < ((V.int v :: r.map V.int).length : Nat))) = true then some _ else none) = some 0
          simp
        have hlst2 : (upd H2 c (.lst (r.map V.int))) a = some (.lst [.ref c, .int S1.cur, .int S1.cnt, .int S1.mix]) := by rw [upd_ne h1.ne]; exact h2.lst
        refine ⟨_, rfl, a, _, 1, 1, rfl, rfl, hlst2, rfl, ?_⟩
        have k3 : Kept a c H (upd (upd H2 c (.lst (r.map V.int))) a (.lst [.ref c, .int v, .int S1.cnt, .int S1.mix])) := k2.updC.updA
        have h3l : (upd (upd H2 c (.lst (r.map V.int))) a (.lst [.ref c, .int v, .int S1.cnt, .int S1.mix])) a = some (.lst [.ref c, .int v, .int S1.cnt, .int S1.mix]) := upd_same
        have h3c : (upd (upd H2 c (.lst (r.map V.int))) a (.lst [.ref c, .int v, .int S1.cnt, .int S1.mix])) c = some (.lst (r.map V.int)) := by rw [upd_ne h1.ne.symm]; exact upd_same
        refine ⟨_, rfl, a, _, _, _, rfl, rfl, SqL.of h3l, rfl, _, _, rfl, rfl, ⟨by decide, by decide, by decide⟩, _, _, rfl, rfl, _, rfl, ?_⟩
        have hl : r.length ≤ 63 := by omega
        refine ite2 (fun c2 => ?_) (fun c2 => ?_)
        · refine ⟨_, rfl, a, _, _, _, rfl, rfl, SqL.of h3l, rfl, _, _, rfl, rfl, .inl ⟨by omega, by omega⟩, _, rfl, a, _, _, _, rfl, rfl, SqL.of h3l, rfl, _, _, rfl, rfl, _, _, rfl, rfl, .inl ⟨_, rfl, _, _, rfl, rfl, (by show (0 : Int) < 2147483647; decide), ?_⟩⟩
          refine ⟨_, rfl, a, _, 3, 3, rfl, rfl, h3l, rfl, ?_⟩
          refine ⟨_, rfl, a, _, 1, 1, rfl, rfl, upd_same, rfl, ?_⟩
          refine ⟨⟨r, 0, S1.cnt, (S1.mix * 31 + v + 7) % 2147483647⟩, rfl, ⟨upd_same, ?_, h1.ne, hl, Int.le_refl 0, l1, Int.emod_nonneg _ (by decide), Int.emod_lt_of_pos _ (by decide)⟩, ec, k3.updA.updA, by show r.length < _; omega⟩
          rw [upd_ne h1.ne.symm, upd_ne h1.ne.symm]
          exact h3c
        · have c2' : ¬ v < 10 ^ 18 := by simpa using c2
          refine ⟨⟨r, v, S1.cnt, S1.mix⟩, rfl, ⟨h3l, h3c, h1.ne, hl, by show 0 ≤ v; omega, l1, l2, l3⟩, ec, k3, by show r.length < _; omega⟩
    · exact ⟨S1, rfl, h1, ec, k1⟩
  · rintro σ H1 ⟨S1, rfl, h1, ec, k1⟩
    have l0 := h1.cur0
    have l1 := h1.cnt0
    have l2 := h1.mix0
    have l3 := h1.mix1
    refine ⟨_, rfl, a, _, _, _, rfl, rfl, SqL.of h1.lst, rfl, _, _, rfl, rfl, _, rfl, ?_⟩
    refine ite2 (fun c1 => ?_) (fun c1 => ?_)
    · have c1' : 0 < S1.cur := by simpa using c1
      refine ⟨_, rfl, a, _, _, _, rfl, rfl, SqL.of h1.lst, rfl, .inl ⟨_, rfl, _, rfl, _, _, rfl, rfl, hm0, ?_⟩⟩
      refine ⟨_, rfl, a, _, _, _, rfl, rfl, SqL.of h1.lst, rfl, _, rfl, _, _, rfl, rfl, ⟨by omega, by omega⟩, ?_⟩
      refine ⟨_, rfl, a, _, 1, 1, rfl, rfl, h1.lst, rfl, _, rfl, ?_⟩
      refine q _ ⟨S1.cells, S1.cur.fdiv m, S1.cnt, S1.mix⟩ _ ⟨upd_same, ?_, h1.ne, h1.len, ?_, l1, l2, l3⟩ (by show S1.cnt ≤ _; omega) k1.updA (Int.emod_nonneg _ (by omega)) (Int.emod_lt_of_pos _ hm0)
      · rw [upd_ne h1.ne.symm]; exact h1.cel
      · show 0 ≤ S1.cur.fdiv m
        rw [Int.fdiv_eq_ediv_of_nonneg _ (by omega)]
        exact Int.ediv_nonneg (by omega) (by omega)
    · refine ⟨_, rfl, a, _, _, _, rfl, rfl, SqL.of h1.lst, rfl, _, _, rfl, rfl, ?_⟩
      refine ⟨_, rfl, a, _, 2, 2, rfl, rfl, h1.lst, rfl, ?_⟩
      have h2l : (upd H1 a (.lst [.ref c, .int S1.cur, .int (S1.cnt + 1), .int S1.mix])) a = some (.lst [.ref c, .int S1.cur, .int (S1.cnt + 1), .int S1.mix]) := upd_same
      refine ⟨_, rfl, a, _, _, _, rfl, rfl, SqL.of h2l, rfl, _, rfl, a, _, _, _, rfl, rfl, SqL.of h2l, rfl, _, _, rfl, rfl, .inl ⟨by decide, by decide⟩, _, _, rfl, rfl, _, _, rfl, rfl, _, _, rfl, rfl, ⟨by decide, by decide, by show (S1.mix + 104729 * (S1.cnt + 1) + 17).natAbs < 2 ^ 64; omega⟩, .inl ⟨_, rfl, _, _, rfl, rfl, (by show (0 : Int) < 2147483629; decide), ?_⟩⟩
      obtain ⟨M, eM⟩ : ∃ M : Int, (S1.mix + 104729 * (S1.cnt + 1) + 17) ^ (5 : Int).toNat % 2147483629 = M := ⟨_, rfl⟩
      have m0 : 0 ≤ M := by rw [← eM]; exact Int.emod_nonneg _ (by decide)
      have m1 : M < 2147483629 := by rw [← eM]; exact Int.emod_lt_of_pos _ (by decide)
      refine ⟨_, rfl, _, _, rfl, rfl, .inl ⟨by rw [eM]; omega, by rw [eM]; omega⟩, _, rfl, a, _, _, _, rfl, rfl, SqL.of h2l, rfl, _, _, rfl, rfl, .inl ⟨by decide, by decide⟩, _, rfl, a, _, _, _, rfl, rfl, SqL.of h2l, rfl, _, _, rfl, rfl, .inl ⟨by omega, by omega⟩, _, _, rfl, rfl, _, _, rfl, rfl, _, _, rfl, rfl, ⟨by decide, by decide, ?_⟩, .inl ⟨_, rfl, _, _, rfl, rfl, (by show (0 : Int) < 1000000007; decide), ?_⟩⟩
      · have n1 : (S1.cnt + 1) * (S1.cnt + 1) ≤ 1000000 * 1000000 := Int.mul_le_mul (by omega) (by omega) (by omega) (by omega)
        have n2 : 0 ≤ (S1.cnt + 1) * (S1.cnt + 1) := Int.mul_nonneg (by omega) (by omega)
        have n3 : 40503 * (S1.cnt + 1) * (S1.cnt + 1) = 40503 * ((S1.cnt + 1) * (S1.cnt + 1)) := Int.mul_assoc _ _ _
        show ((S1.mix + 104729 * (S1.cnt + 1) + 17) ^ (5 : Int).toNat % 2147483629 * 48271 + 40503 * (S1.cnt + 1) * (S1.cnt + 1) + 13).natAbs < 2 ^ 64
        rw [n3, eM]
        omega
      refine ⟨_, rfl, .inl ⟨_, rfl, _, rfl, _, _, rfl, rfl, hm0, ?_⟩⟩
      refine q _ ⟨S1.cells, S1.cur, S1.cnt + 1, S1.mix⟩ _ ⟨h2l, ?_, h1.ne, h1.len, l0, by show 0 ≤ S1.cnt + 1; omega, l2, l3⟩ (by show S1.cnt + 1 ≤ _; omega) k1.updA (Int.emod_nonneg _ (by omega)) (Int.emod_lt_of_pos _ hm0)
      rw [upd_ne h1.ne.symm]; exact h1.cel
/-- _law_pick: an item of the list or tuple at l -/
def spPick (K : PySem.W.Frag) : Sp := fun vs H Q _ => ∃ (a c l : Addr) (S : Stm) (xs : List V), vs = [.ref a, .ref l] ∧ StmAt H a c S ∧ S.cnt < 1000000 ∧ H l = some (.lst xs) ∧ l ≠ a ∧ l ≠ c ∧ 0 < xs.length ∧ xs.length < 1000000 ∧
  ∀ (H' : Hp) (S' : Stm) (x : V), StmAt H' a c S' → S'.cnt ≤ S.cnt + 1 → Kept a c H H' → x ∈ xs → Q x H'
theorem ok_pick {f g : Addr} {fd gd : FuncData} (F : Fun K "_law_pick" "_law_pick" sPick f fd) (D : FnOk P w K mg base CX0 1 g gd ["_law_stream", "_law_many"] spDraw) (bD : Binds K gd ["_law_stream", "_law_many"] []) (kD : PySem.W.keepIn K (.ref g) = true) (mD : mg "_law_draw" = some (.ref g)) (ml : mg "len" = none) :
    FnOk P w K mg base CX0 2 f fd ["_law_stream", "_law_some"] (spPick K) := by
  refine F.ok scPick (fun vs H Q E h => ?_) (fun cdv A outer s H vs Q E hr h => ?_)
  · obtain ⟨a, c, l, S, xs, rfl, _⟩ := h
    rfl
  obtain ⟨a, c, l, S, xs, rfl, hS, hcnt, hl, la, lc, h0, h1, q⟩ := h
  refine ⟨_, pss_one (ps_ret (pe_ix ix_list (pv 1) (pe_call D hr rfl mD kD bD .nil pass0 (pa_cons (pv 0) (pa_cons (pe_callB call_len_seq rfl ml PySem.boot_len (pa_cons (pv 1) pa_nil)) pa_nil))) (fun _ _ => rfl))), ?_⟩
  refine ⟨_, rfl, _, rfl, _, rfl, l, _, rfl, .inl (SqL.of hl), a, c, S, _, rfl, hS, hcnt, by omega, by omega, fun H' S' r h' hc k hr0 hr1 => ?_⟩
  have hl' := k l _ la lc hl
  obtain ⟨j, rfl⟩ : ∃ j : Nat, r = (j : Int) := ⟨r.toNat, by omega⟩
  have hj : j < xs.length := by omega
  exact ⟨l, _, _, _, rfl, rfl, SqL.of hl', atI_nat (List.getElem?_eq_getElem hj), q H' S' _ h' hc k (List.getElem_mem hj)⟩
/-- _law_pick: a sign of a text -/
def spPickS : Sp := fun vs H Q _ => ∃ (a c : Addr) (S : Stm) (x : Str), vs = [.ref a, .str x] ∧ StmAt H a c S ∧ S.cnt < 1000000 ∧ 0 < x.length ∧ x.length < 1000000 ∧
  ∀ (H' : Hp) (S' : Stm) (n : Nat), StmAt H' a c S' → S'.cnt ≤ S.cnt + 1 → Kept a c H H' → n ∈ x.cps.toList → Q (.str ⟨#[n]⟩) H'
theorem ok_pickS {f g : Addr} {fd gd : FuncData} (F : Fun K "_law_pick" "_law_pick" sPick f fd) (D : FnOk P w K mg base CX0 1 g gd ["_law_stream", "_law_many"] spDraw) (bD : Binds K gd ["_law_stream", "_law_many"] []) (kD : PySem.W.keepIn K (.ref g) = true) (mD : mg "_law_draw" = some (.ref g)) (ml : mg "len" = none) :
    FnOk P w K mg base CX0 2 f fd ["_law_stream", "_law_some"] spPickS := by
  refine F.ok scPick (fun vs H Q E h => ?_) (fun cdv A outer s H vs Q E hr h => ?_)
  · obtain ⟨a, c, S, x, rfl, _⟩ := h
    rfl
  obtain ⟨a, c, S, x, rfl, hS, hcnt, h0, h1, q⟩ := h
  refine ⟨_, pss_one (ps_ret (pe_ix ix_str (pv 1) (pe_call D hr rfl mD kD bD .nil pass0 (pa_cons (pv 0) (pa_cons (pe_callB call_len_str rfl ml PySem.boot_len (pa_cons (pv 1) pa_nil)) pa_nil))) (fun _ _ => rfl))), ?_⟩
  have z : (1000000 : Nat) < sizeLine := by decide
  refine ⟨_, rfl, _, rfl, _, rfl, _, rfl, by omega, a, c, S, _, rfl, hS, hcnt, by omega, by omega, fun H' S' r h' hc k hr0 hr1 => ?_⟩
  obtain ⟨j, rfl⟩ : ∃ j : Nat, r = (j : Int) := ⟨r.toNat, by omega⟩
  have hj : j < x.cps.toList.length := by
    have : x.length = x.cps.toList.length := by simp [Str.length]
    omega
  refine ⟨_, _, _, rfl, rfl, by omega, atI_nat (List.getElem?_eq_getElem hj), q H' S' _ h' hc k (List.getElem_mem hj)⟩
end
theorem Kept.free {a c : Addr} {H H1 : Hp} (k : Kept a c H H1) (ha : H1 a ≠ none) (hc : H1 c ≠ none) {b : Addr} (h : H1 b = none) : H b = none := by
  cases e : H b with
  | none => rfl
  | some o =>
    have na : b ≠ a := fun z => ha (z ▸ h)
    have nc : b ≠ c := fun z => hc (z ▸ h)
    rw [k b o na nc e] at h
    cases h
theorem StmAt.a0 {H : Hp} {a c : Addr} {S : Stm} (h : StmAt H a c S) : H a ≠ none := by rw [h.lst]; simp
theorem StmAt.c0 {H : Hp} {a c : Addr} {S : Stm} (h : StmAt H a c S) : H c ≠ none := by rw [h.cel]; simp
theorem StmAt.keep {H H' : Hp} {a c : Addr} {S : Stm} (h : StmAt H a c S) (k : Same H H') : StmAt H' a c S := ⟨k _ _ h.lst, k _ _ h.cel, h.ne, h.len, h.cur0, h.cnt0, h.mix0, h.mix1⟩
theorem same_new {H : Hp} {p : Addr} {o : HO} (h : H p = none) : Same H (upd H p o) := fun b u e => by rw [upd_ne (ne_of_none e h)]; exact e
end M4

namespace M4
open PySem PySem.Spec PyProof.Rows L2 StX
/-! ### keywords that go to **more -/
theorem push_upd (h : Heap) (o : Obj) (f : Obj → Obj) : (h.push o).update h.objs.size f = h.push (f o) := by
  obtain ⟨objs, l⟩ := h
  show (⟨(objs.push o).modify objs.size f, l⟩ : Heap) = ⟨objs.push (f o), l⟩
  congr 1
  apply Array.ext
  · simp
  · intro i h1 h2
    simp only [Array.size_modify, Array.size_push] at h1
    rw [Array.getElem_modify]
    by_cases hi : i = objs.size
    · subst hi
      simp
    · have : i < objs.size := by omega
      rw [if_neg (Ne.symm hi), Array.getElem_push_lt this, Array.getElem_push_lt this]
def dO (es : List DictEntry) (n : Nat) : Obj := { cls := .type "dict", data := .dict es.toArray n }
/-- the entries of a dict of keywords -/
inductive Es (w : World) : List DictEntry → List (Str × Value) → Prop
  | nil : Es w [] []
  | cons {k : Str} {t : Tok} {v : Value} {es : List DictEntry} {r : List (Str × Value)} : Es w es r → Es w (⟨hashStr w k, .str k t, v⟩ :: es) ((k, v) :: r)
theorem Es.snoc {w : World} {k : Str} {t : Tok} {v : Value} {es : List DictEntry} {r : List (Str × Value)} (h : Es w es r) : Es w (es ++ [⟨hashStr w k, .str k t, v⟩]) (r ++ [(k, v)]) := by
  induction h with
  | nil => exact .cons .nil
  | cons _ ih => exact .cons ih
theorem Es.str {w : World} {k : Str} {es : List DictEntry} {r : List (Str × Value)} (h : Es w es r) (hk : k ∉ r.map (·.1)) : es.any (·.key.isStr k) = false := by
  induction h with
  | nil => rfl
  | @cons k' t v es r _ ih =>
    have h1 : k' ≠ k := fun z => hk (by rw [← z]; exact List.mem_cons_self ..)
    have h2 := ih fun z => hk (List.mem_cons_of_mem _ z)
    rw [List.any_cons, h2, Bool.or_false]
    show (k' == k) = false
    exact beq_eq_false_iff_ne.mpr h1
theorem Es.ref {w : World} {es : List DictEntry} {r : List (Str × Value)} (h : Es w es r) : es.any (·.refKey) = false := by
  induction h with
  | nil => rfl
  | cons _ ih => rw [List.any_cons, ih]; rfl
theorem Es.pairs {P : Program} {w : World} {es : List DictEntry} {r : List (Str × Value)} (h : Es w es r) : Pairs (mixKind P w) es (r.map fun p => ((Sum.inr p.1 : Key), p.2)) := by
  induction h with
  | nil => exact .nil
  | cons _ ih => exact .cons (mixKind_str _ _ _ _) rfl ih
theorem Es.keys {P : Program} {w : World} {es : List DictEntry} {r : List (Str × Value)} (h : Es w es r) : KeysOf (mixKind P w) es.toArray := by
  intro e he
  have he : e ∈ es := by simpa using he
  induction h with
  | nil => cases he
  | cons _ ih =>
    rcases List.mem_cons.mp he with z | z
    · subst z; exact ⟨.inr _, mixKind_str _ _ _ _, rfl⟩
    · exact ih (by simpa using z) z
theorem ns_put {prog : Program} {w : World} {A : Around} {E : Value → Shared → Prop} {Q : Unit → Shared → Prop} {s : Shared} {h : Heap} {es : List DictEntry} {n : Nat} {r : List (Str × Value)} {k : Str} {v : Value} (he : s.heap = h.push (dO es n)) (W : Es w es r) (hk : k ∉ r.map (·.1))
    (q : ∀ t : Tok, Q () { s with heap := h.push (dO (es ++ [⟨hashStr w k, .str k t, v⟩]) (n + 1)), toks := s.toks + 1 }) : wpAny (model prog w) A (nsSet h.objs.size k v) Q E s := by
  have e1 := W.str hk
  have e2 := W.ref
  have D : s.heap.get? h.objs.size = some (dO es n) := by rw [he]; exact Heap.get?_push_size _ rfl
  have c : aRefKeyMayBeTheName k es.toArray = false := by
    rw [aRefKeyMayBeTheName_at, ← Array.any_toList, ← Array.any_toList]
    show (!es.any (·.key.isStr k) && es.any (·.refKey)) = false
    rw [e2, Bool.and_false]
  have e : Obj.putName k (hashStr w k) (.str k s.toks) v (dO es n) = dO (es ++ [⟨hashStr w k, .str k s.toks, v⟩]) (n + 1) := by
    unfold dO
    rw [PySem.W.putName_dict, PySem.W.putL_new (fun x hx => by
      have z := List.any_eq_false.mp e1 x hx
      simpa using z)]
    show PySem.W.dictOf _ (if es.any (·.key.isStr k) then n else n + 1) = _
    rw [e1, if_neg Bool.false_ne_true]
  unfold nsSet
  refine wpAny_bind (wpAny_bind (wpAny_askSetting (wpAny_pure (wpAny_bind (wpAny_mkText (wpAny_bind (wpAny_loadPart D ?_)))))))
  dsimp only [dO]
  rw [c]
  refine wpAny_updatePart D ?_
  have z := q s.toks
  rw [← e, ← push_upd, ← he] at z
  exact z

theorem ns_fill {prog : Program} {w : World} {A : Around} {E : Value → Shared → Prop} {h : Heap} {Q : PUnit → Shared → Prop} : ∀ (ex : List (Str × Value)) (s : Shared) (es : List DictEntry) (n : Nat) (r : List (Str × Value)), s.heap = h.push (dO es n) → Es w es r → ((r ++ ex).map (·.1)).Nodup →
    (∀ es' n' t', Es w es' (r ++ ex) → Q ⟨⟩ { s with heap := h.push (dO es' n'), toks := t' }) →
    wpAny (model prog w) A (forIn ex PUnit.unit fun x _ => (nsSet h.objs.size x.1 x.2 >>= fun _ => pure (ForInStep.yield PUnit.unit))) Q E s
  | [], s, es, n, r, he, W, hn, q => by
    rw [List.forIn_nil]
    have z := q es n s.toks (by rw [List.append_nil]; exact W)
    refine wpAny_pure ?_
    rw [← he] at z
    exact z
  | x :: ex, s, es, n, r, he, W, hn, q => by
    rw [List.forIn_cons]
    have hx : x.1 ∉ r.map (·.1) := fun z => by
      rw [List.map_append, List.nodup_append] at hn
      exact hn.2.2 _ z _ (List.mem_cons_self ..) rfl
    refine wpAny_bind (wpAny_bind (ns_put he W hx fun t => wpAny_pure ?_))
    have e : (r ++ [x]) ++ ex = r ++ x :: ex := by simp
    refine ns_fill ex _ _ _ (r ++ [x]) rfl W.snoc (by rw [e]; exact hn) fun es' n' t' W' => ?_
    rw [e] at W'
    exact q es' n' t' W'
def fkv (ns : List Str) (vs : List V) : List (Key × V) := List.zipWith (fun n v => (Sum.inr n, v)) ns vs
theorem kv_kw : ∀ {ks : List Str} {zs : List V} {ws : List Value}, Vals zs ws → KV (fkv ks zs) ((ks.zip ws).map fun p => ((Sum.inr p.1 : Key), p.2))
  | [], _, _, _ => .nil
  | _ :: _, [], _, .nil => .nil
  | k :: ks, z :: zs, _, .cons a r => .cons ⟨rfl, a⟩ (kv_kw r)
theorem kw_ok {P : Program} {w : World} {H : Hp} {h : Heap} {ks : List Str} {zs : List V} {ws : List Value} {es : List DictEntry} {n : Nat} (hb : sysModules < h.objs.size) (hn : ks.Nodup) (hz : ks.length ≤ sizeLine) (hl : ws.length = ks.length) (r : Vals zs ws) (W : Es w es (ks.zip ws)) :
    ObjOk P w H (h.push (dO es n)) h.objs.size (.dK (fkv ks zs)) := by
  refine ⟨?_, beq_eq_false_iff_ne.mpr (Ne.symm (Nat.ne_of_lt hb)), _, kv_kw r, dO es n, es.toArray, n, Heap.get?_push_size _ rfl, ⟨rfl, rfl, rfl⟩, rfl, W.keys, ?_, ?_⟩
  · unfold fkv
    rw [List.length_zipWith]
    omega
  · have e : es.toArray.toList = es := by simp
    rw [e]
    exact W.pairs
  · rw [List.map_map]
    have e : ((fun p : Key × Value => p.1) ∘ fun p : Str × Value => ((Sum.inr p.1 : Key), p.2)) = (fun x : Str => (Sum.inr x : Key)) ∘ Prod.fst := rfl
    rw [e, ← List.map_map, List.map_fst_zip (by omega)]
    exact hn.map _ fun x y z => fun q => z (Sum.inr.inj q)
def FnRK (P : Program) (w : World) (K : PySem.W.Frag) (mg : Str → Option Value) (base : Heap) (CX : CXT) (k : Nat) (f : Addr) (ks : List Str) (sp : List V → List V → Hp → VK → XK → Prop) : Prop :=
  ∀ (A : Around) (outer : List Env) (s : Shared) (H : Hp) (us ws : List Value) (vs zs : List V) (Q : VK) (E : XK), Room k A → Env0 P w K mg base A outer s H → Vals vs us → Vals zs ws → ws.length = ks.length → sp vs zs H Q E →
    codeAny (model P w) A (.call (.ref f) ⟨us, ks.zip ws⟩) (CR CX outer P w H s Q E) s
section
variable {CX : CXT} {P : Program} {w : World} {K : PySem.W.Frag} {mg : Str → Option Value} {base : Heap} {k : Nat} {f : Addr} {name qual : Str} {params : Arguments} {body : List Stmt} {scope : Scope} {dV kV doc pm cdv ct oc : Value} {an od : Option Addr}
  {osl : Array (Option Value)} {N ps : List Str} {sp : Sp}
/-- def f(a, .., *v, **d), called with keywords ks, none of them a parameter's name -/
theorem fn_starkwK {pv pd : Str} {ks : List Str} (lk : K.lookup f = some ⟨oc, od, .func (PySem.W.fnOf name qual params body scope dV kV doc pm an cdv ct), osl⟩) (hcd : PySem.W.codeIn K cdv qual = true) (S : FnScope N (ps ++ [pv, pd]) scope) (hCX : CXUp CX) (hn : ks.Nodup) (hkz : ks.length ≤ sizeLine)
    (hb : ∀ us rest ws : List Value, us.length = ps.length → ws.length = ks.length → bindArgs (PySem.W.fnOf name qual params body scope dV kV doc pm an cdv ct) ⟨us ++ rest, ks.zip ws⟩ =
      (newTuple rest >>= fun t => (alloc ({ cls := .type "dict", data := .dict #[] } : Obj) : Sem Addr) >>= fun d => (forIn (ks.zip ws) PUnit.unit fun x _ => (nsSet d x.1 x.2 >>= fun _ => pure (ForInStep.yield PUnit.unit))) >>= fun _ => pure (ps.zip us ++ [(pv, t), (pd, Value.ref d)])))
    (hbody : ∀ (A : Around) (outer : List Env) (s : Shared) (H : Hp) (vs : List V) (Q : VK) (E : XK), Room k (A.deeper (envOfC qual scope s.heap.objs.size f cdv)) → sp vs H Q E →
      ∃ t, PSs (cxOf CX P w K mg base N qual scope f cdv A outer s H E) body t ∧ t { nx := fun _ H' => Q .non H', rt := Q } (start N vs) H) :
    FnRK P w K mg base CX (k + 1) f ks (fun vs zs H Q E => ∃ ws rest, vs = ws ++ rest ∧ ws.length = ps.length ∧ rest.length ≤ sizeLine ∧ ∀ p d, H p = Option.none → H d = Option.none → d ≠ p → sp (ws ++ [V.ref p, V.ref d]) (upd (upd H p (.tup rest)) d (.dK (fkv ks zs))) Q E) := by
  intro A outer s H us kw vs zs Q E hr e0 r rz hlw hsp
  obtain ⟨ws, rest, ev, hl, hz, hq⟩ := hsp
  subst ev
  obtain ⟨u1, u2, eu, r1, r2⟩ := vals_split r
  subst eu
  have hnn : H s.heap.objs.size = Option.none := e0.hok.fresh (Nat.le_refl _)
  have hl1 : u1.length = ps.length := by rw [← r1.length]; exact hl
  have hl2 : u2.length ≤ sizeLine := by rw [← r2.length]; exact hz
  refine run_bnd lk hcd S hr e0 (G := fun xs H2 => ∃ p d, H p = Option.none ∧ H d = Option.none ∧ d ≠ p ∧ xs = ws ++ [V.ref p, V.ref d] ∧ H2 = upd (upd H p (.tup rest)) d (.dK (fkv ks zs))) (fun A' Ex Q' h => ?_) fun s2 H2 xs ⟨p, d, hp, hd, hne, ex, eH⟩ hr' => ?_
  · rw [hb u1 u2 kw hl1 hlw]
    refine wpAny_bind (wpAny_newTuple (wpAny_bind (wpAny_alloc (wpAny_bind (ns_fill (w := w) (ks.zip kw) _ [] 0 [] rfl .nil ?_ fun es n t W => wpAny_pure ?_)))) hl2)
    · rw [List.nil_append, List.map_fst_zip (by omega)]
      exact hn
    rw [List.nil_append] at W
    have new : ObjOk P w (upd H s.heap.objs.size (.tup rest)) (s.heap.push ({ cls := .type "tuple", data := .seq u2.toArray } : Obj)) s.heap.objs.size (.tup rest) := ⟨hz, u2, r2, ⟨_, Heap.get?_push_size _ rfl, rfl, _, rfl⟩⟩
    have e1 := env0_laid e0 new
    have un1 := un_laid (fs := frs outer) (s := s) (o := ({ cls := .type "tuple", data := .seq u2.toArray } : Obj)) (u := .tup rest) hnn
    have hn2 := e1.hok.fresh (Nat.le_refl _)
    have e2 := env0_laid (u := .dK (fkv ks zs)) (o := dO es n) e1 (kw_ok (env0_big e1) hn hkz hlw rz W)
    have un2 := un1.trans (un_laid (fs := frs outer) (s := { s with heap := s.heap.push ({ cls := .type "tuple", data := .seq u2.toArray } : Obj) }) (o := dO es n) (u := .dK (fkv ks zs)) hn2)
    have sz : (s.heap.push ({ cls := .type "tuple", data := .seq u2.toArray } : Obj)).objs.size = s.heap.objs.size + 1 := Heap.size_push _ _
    have ne : (s.heap.push ({ cls := .type "tuple", data := .seq u2.toArray } : Obj)).objs.size ≠ s.heap.objs.size := by
      rw [sz]
      exact Nat.succ_ne_self _
    have hd : H (s.heap.push ({ cls := .type "tuple", data := .seq u2.toArray } : Obj)).objs.size = Option.none := e0.hok.fresh (by rw [sz]; exact Nat.le_succ _)
    have z := h { s with heap := (s.heap.push ({ cls := .type "tuple", data := .seq u2.toArray } : Obj)).push (dO es n), toks := t } _ (ws ++ [V.ref s.heap.objs.size, V.ref (s.heap.push ({ cls := .type "tuple", data := .seq u2.toArray } : Obj)).objs.size]) (u1 ++ [Value.ref s.heap.objs.size, Value.ref (s.heap.push ({ cls := .type "tuple", data := .seq u2.toArray } : Obj)).objs.size]) ⟨e2.frames, e2.mod, e2.bs, e2.bsz, e2.funs, e2.frf, e2.hok, e2.bare⟩ un2 rfl
      (fun e s' => hCX outer s H _ _ E e s' un2 (fun b o q => Heap.get?_push_of_some _ (Heap.get?_push_of_some _ q)) rfl) (r1.append (.cons rfl (.cons rfl .nil))) (by rw [List.length_append, List.length_append, hl] <;> rfl) ⟨_, _, hnn, hd, ne, rfl, rfl⟩
    rw [List.zip_append hl1.symm] at z
    exact z
  · subst ex eH
    exact hbody A outer s2 _ _ Q E hr' (hq p d hp hd hne)
end
end M4

namespace M4
open PySem PySem.Spec PyProof.Rows L2 StX
/-! ### FIELDS -/
def attrs : List Str := ["lineno", "col_offset", "end_lineno", "end_col_offset"]
def fr0_0 : Str × List (Str × Str × Str) := ("Module", [("body", "STMT", "*")])
def fr0_1 : Str × List (Str × Str × Str) := ("Expression", [("body", "EXPR", "")])
def fr0_2 : Str × List (Str × Str × Str) := ("FunctionDef", [("name", "NAME", ""), ("args", "arguments", ""), ("body", "STMT", "+"), ("decorator_list", "EXPR", "*"), ("returns", "EXPR", "?")])
def fr0_3 : Str × List (Str × Str × Str) := ("AsyncFunctionDef", [("name", "NAME", ""), ("args", "arguments", ""), ("body", "STMT", "+"), ("decorator_list", "EXPR", "*"), ("returns", "EXPR", "?")])
def fr0_4 : Str × List (Str × Str × Str) := ("ClassDef", [("name", "NAME", ""), ("bases", "EXPR", "*"), ("keywords", "keyword", "*"), ("body", "STMT", "+"), ("decorator_list", "EXPR", "*")])
def fr0_5 : Str × List (Str × Str × Str) := ("Return", [("value", "EXPR", "?")])
def fr0_6 : Str × List (Str × Str × Str) := ("Delete", [("targets", "EXPR", "+")])
def fr0_7 : Str × List (Str × Str × Str) := ("Assign", [("targets", "EXPR", "+"), ("value", "EXPR", "")])
def fr0_8 : Str × List (Str × Str × Str) := ("AugAssign", [("target", "EXPR", ""), ("op", "OPERATOR", ""), ("value", "EXPR", "")])
def fr0_9 : Str × List (Str × Str × Str) := ("AnnAssign", [("target", "EXPR", ""), ("annotation", "EXPR", ""), ("value", "EXPR", "?"), ("simple", "BIT", "")])
def fr0_10 : Str × List (Str × Str × Str) := ("For", [("target", "EXPR", ""), ("iter", "EXPR", ""), ("body", "STMT", "+"), ("orelse", "STMT", "*")])
def fr0_11 : Str × List (Str × Str × Str) := ("AsyncFor", [("target", "EXPR", ""), ("iter", "EXPR", ""), ("body", "STMT", "+"), ("orelse", "STMT", "*")])
def fr0_12 : Str × List (Str × Str × Str) := ("While", [("test", "EXPR", ""), ("body", "STMT", "+"), ("orelse", "STMT", "*")])
def fr0_13 : Str × List (Str × Str × Str) := ("If", [("test", "EXPR", ""), ("body", "STMT", "+"), ("orelse", "STMT", "*")])
def fr0_14 : Str × List (Str × Str × Str) := ("With", [("items", "withitem", "+"), ("body", "STMT", "+")])
def fr0_15 : Str × List (Str × Str × Str) := ("AsyncWith", [("items", "withitem", "+"), ("body", "STMT", "+")])
def fr0_16 : Str × List (Str × Str × Str) := ("Match", [("subject", "EXPR", ""), ("cases", "match_case", "+")])
def fr0_17 : Str × List (Str × Str × Str) := ("Raise", [("exc", "EXPR", "?"), ("cause", "EXPR", "?")])
def fr0_18 : Str × List (Str × Str × Str) := ("Assert", [("test", "EXPR", ""), ("msg", "EXPR", "?")])
def fr0_19 : Str × List (Str × Str × Str) := ("Try", [("body", "STMT", "+"), ("handlers", "ExceptHandler", "*"), ("orelse", "STMT", "*"), ("finalbody", "STMT", "*")])
def fr0_20 : Str × List (Str × Str × Str) := ("Import", [("names", "alias", "+")])
def fr0_21 : Str × List (Str × Str × Str) := ("ImportFrom", [("module", "DOTTED", "?"), ("names", "alias", "+"), ("level", "COUNT", "")])
def fr0_22 : Str × List (Str × Str × Str) := ("Global", [("names", "NAME", "+")])
def fr0_23 : Str × List (Str × Str × Str) := ("Nonlocal", [("names", "NAME", "+")])
def fr0_24 : Str × List (Str × Str × Str) := ("Expr", [("value", "EXPR", "")])
def fr0_25 : Str × List (Str × Str × Str) := ("Pass", [])
def Fld0 : List (Str × List (Str × Str × Str)) := [fr0_0, fr0_1, fr0_2, fr0_3, fr0_4, fr0_5, fr0_6, fr0_7, fr0_8, fr0_9, fr0_10, fr0_11, fr0_12, fr0_13, fr0_14, fr0_15, fr0_16, fr0_17, fr0_18, fr0_19, fr0_20, fr0_21, fr0_22, fr0_23, fr0_24, fr0_25]
def fr1_0 : Str × List (Str × Str × Str) := ("Break", [])
def fr1_1 : Str × List (Str × Str × Str) := ("Continue", [])
def fr1_2 : Str × List (Str × Str × Str) := ("BoolOp", [("op", "BOOLEAN", ""), ("values", "EXPR", "+")])
def fr1_3 : Str × List (Str × Str × Str) := ("NamedExpr", [("target", "EXPR", ""), ("value", "EXPR", "")])
def fr1_4 : Str × List (Str × Str × Str) := ("BinOp", [("left", "EXPR", ""), ("op", "OPERATOR", ""), ("right", "EXPR", "")])
def fr1_5 : Str × List (Str × Str × Str) := ("UnaryOp", [("op", "UNARY", ""), ("operand", "EXPR", "")])
def fr1_6 : Str × List (Str × Str × Str) := ("Lambda", [("args", "arguments", ""), ("body", "EXPR", "")])
def fr1_7 : Str × List (Str × Str × Str) := ("IfExp", [("test", "EXPR", ""), ("body", "EXPR", ""), ("orelse", "EXPR", "")])
def fr1_8 : Str × List (Str × Str × Str) := ("Dict", [("keys", "EXPR", "?*"), ("values", "EXPR", "*")])
def fr1_9 : Str × List (Str × Str × Str) := ("Set", [("elts", "EXPR", "+")])
def fr1_10 : Str × List (Str × Str × Str) := ("ListComp", [("elt", "EXPR", ""), ("generators", "comprehension", "+")])
def fr1_11 : Str × List (Str × Str × Str) := ("SetComp", [("elt", "EXPR", ""), ("generators", "comprehension", "+")])
def fr1_12 : Str × List (Str × Str × Str) := ("GeneratorExp", [("elt", "EXPR", ""), ("generators", "comprehension", "+")])
def fr1_13 : Str × List (Str × Str × Str) := ("DictComp", [("key", "EXPR", ""), ("value", "EXPR", ""), ("generators", "comprehension", "+")])
def fr1_14 : Str × List (Str × Str × Str) := ("Await", [("value", "EXPR", "")])
def fr1_15 : Str × List (Str × Str × Str) := ("Yield", [("value", "EXPR", "?")])
def fr1_16 : Str × List (Str × Str × Str) := ("YieldFrom", [("value", "EXPR", "")])
def fr1_17 : Str × List (Str × Str × Str) := ("Compare", [("left", "EXPR", ""), ("ops", "COMPARISON", "+"), ("comparators", "EXPR", "+")])
def fr1_18 : Str × List (Str × Str × Str) := ("Call", [("func", "EXPR", ""), ("args", "EXPR", "*"), ("keywords", "keyword", "*")])
def fr1_19 : Str × List (Str × Str × Str) := ("FormattedValue", [("value", "EXPR", ""), ("conversion", "CONVERSION", ""), ("format_spec", "JoinedStr", "?")])
def fr1_20 : Str × List (Str × Str × Str) := ("JoinedStr", [("values", "EXPR", "*")])
def fr1_21 : Str × List (Str × Str × Str) := ("Constant", [("value", "VALUE", "")])
def fr1_22 : Str × List (Str × Str × Str) := ("Attribute", [("value", "EXPR", ""), ("attr", "NAME", ""), ("ctx", "CONTEXT", "")])
def fr1_23 : Str × List (Str × Str × Str) := ("Subscript", [("value", "EXPR", ""), ("slice", "EXPR", ""), ("ctx", "CONTEXT", "")])
def fr1_24 : Str × List (Str × Str × Str) := ("Starred", [("value", "EXPR", ""), ("ctx", "CONTEXT", "")])
def fr1_25 : Str × List (Str × Str × Str) := ("Name", [("id", "NAME", ""), ("ctx", "CONTEXT", "")])
def Fld1 : List (Str × List (Str × Str × Str)) := [fr1_0, fr1_1, fr1_2, fr1_3, fr1_4, fr1_5, fr1_6, fr1_7, fr1_8, fr1_9, fr1_10, fr1_11, fr1_12, fr1_13, fr1_14, fr1_15, fr1_16, fr1_17, fr1_18, fr1_19, fr1_20, fr1_21, fr1_22, fr1_23, fr1_24, fr1_25]
def fr2_0 : Str × List (Str × Str × Str) := ("List", [("elts", "EXPR", "*"), ("ctx", "CONTEXT", "")])
def fr2_1 : Str × List (Str × Str × Str) := ("Tuple", [("elts", "EXPR", "*"), ("ctx", "CONTEXT", "")])
def fr2_2 : Str × List (Str × Str × Str) := ("Slice", [("lower", "EXPR", "?"), ("upper", "EXPR", "?"), ("step", "EXPR", "?")])
def fr2_3 : Str × List (Str × Str × Str) := ("comprehension", [("target", "EXPR", ""), ("iter", "EXPR", ""), ("ifs", "EXPR", "*"), ("is_async", "BIT", "")])
def fr2_4 : Str × List (Str × Str × Str) := ("ExceptHandler", [("exc", "EXPR", "?"), ("name", "NAME", "?"), ("body", "STMT", "+")])
def fr2_5 : Str × List (Str × Str × Str) := ("arguments", [("posonlyargs", "arg", "*"), ("args", "arg", "*"), ("vararg", "arg", "?"), ("kwonlyargs", "arg", "*"), ("kw_defaults", "EXPR", "?*"), ("kwarg", "arg", "?"), ("defaults", "EXPR", "*")])
def fr2_6 : Str × List (Str × Str × Str) := ("arg", [("arg", "NAME", ""), ("annotation", "EXPR", "?")])
def fr2_7 : Str × List (Str × Str × Str) := ("keyword", [("arg", "NAME", "?"), ("value", "EXPR", "")])
def fr2_8 : Str × List (Str × Str × Str) := ("alias", [("name", "DOTTED_OR_STAR", ""), ("asname", "NAME", "?")])
def fr2_9 : Str × List (Str × Str × Str) := ("withitem", [("context_expr", "EXPR", ""), ("optional_vars", "EXPR", "?")])
def fr2_10 : Str × List (Str × Str × Str) := ("match_case", [("pattern", "PATTERN", ""), ("guard", "EXPR", "?"), ("body", "STMT", "+")])
def fr2_11 : Str × List (Str × Str × Str) := ("MatchValue", [("value", "EXPR", "")])
def fr2_12 : Str × List (Str × Str × Str) := ("MatchSingleton", [("value", "SINGLETON", "")])
def fr2_13 : Str × List (Str × Str × Str) := ("MatchSequence", [("patterns", "PATTERN", "*")])
def fr2_14 : Str × List (Str × Str × Str) := ("MatchOr", [("patterns", "PATTERN", "+")])
def fr2_15 : Str × List (Str × Str × Str) := ("MatchMapping", [("keys", "EXPR", "*"), ("patterns", "PATTERN", "*"), ("rest", "NAME", "?")])
def fr2_16 : Str × List (Str × Str × Str) := ("MatchClass", [("cls", "EXPR", ""), ("patterns", "PATTERN", "*"), ("kwd_attrs", "NAME", "*"), ("kwd_patterns", "PATTERN", "*")])
def fr2_17 : Str × List (Str × Str × Str) := ("MatchStar", [("name", "NAME", "?")])
def fr2_18 : Str × List (Str × Str × Str) := ("MatchAs", [("pattern", "PATTERN", "?"), ("name", "NAME", "?")])
def fr2_19 : Str × List (Str × Str × Str) := ("And", [])
def fr2_20 : Str × List (Str × Str × Str) := ("Or", [])
def fr2_21 : Str × List (Str × Str × Str) := ("Invert", [])
def fr2_22 : Str × List (Str × Str × Str) := ("Not", [])
def fr2_23 : Str × List (Str × Str × Str) := ("UAdd", [])
def fr2_24 : Str × List (Str × Str × Str) := ("USub", [])
def fr2_25 : Str × List (Str × Str × Str) := ("Load", [])
def Fld2 : List (Str × List (Str × Str × Str)) := [fr2_0, fr2_1, fr2_2, fr2_3, fr2_4, fr2_5, fr2_6, fr2_7, fr2_8, fr2_9, fr2_10, fr2_11, fr2_12, fr2_13, fr2_14, fr2_15, fr2_16, fr2_17, fr2_18, fr2_19, fr2_20, fr2_21, fr2_22, fr2_23, fr2_24, fr2_25]
def fr3_0 : Str × List (Str × Str × Str) := ("Store", [])
def fr3_1 : Str × List (Str × Str × Str) := ("Del", [])
def fr3_2 : Str × List (Str × Str × Str) := ("Add", [])
def fr3_3 : Str × List (Str × Str × Str) := ("Sub", [])
def fr3_4 : Str × List (Str × Str × Str) := ("Mult", [])
def fr3_5 : Str × List (Str × Str × Str) := ("MatMult", [])
def fr3_6 : Str × List (Str × Str × Str) := ("Div", [])
def fr3_7 : Str × List (Str × Str × Str) := ("FloorDiv", [])
def fr3_8 : Str × List (Str × Str × Str) := ("Pow", [])
def fr3_9 : Str × List (Str × Str × Str) := ("LShift", [])
def fr3_10 : Str × List (Str × Str × Str) := ("RShift", [])
def fr3_11 : Str × List (Str × Str × Str) := ("BitOr", [])
def fr3_12 : Str × List (Str × Str × Str) := ("BitXor", [])
def fr3_13 : Str × List (Str × Str × Str) := ("BitAnd", [])
def fr3_14 : Str × List (Str × Str × Str) := ("Eq", [])
def fr3_15 : Str × List (Str × Str × Str) := ("NotEq", [])
def fr3_16 : Str × List (Str × Str × Str) := ("Lt", [])
def fr3_17 : Str × List (Str × Str × Str) := ("LtE", [])
def fr3_18 : Str × List (Str × Str × Str) := ("Gt", [])
def fr3_19 : Str × List (Str × Str × Str) := ("GtE", [])
def fr3_20 : Str × List (Str × Str × Str) := ("Is", [])
def fr3_21 : Str × List (Str × Str × Str) := ("IsNot", [])
def fr3_22 : Str × List (Str × Str × Str) := ("In", [])
def fr3_23 : Str × List (Str × Str × Str) := ("NotIn", [])
def Fld3 : List (Str × List (Str × Str × Str)) := [fr3_0, fr3_1, fr3_2, fr3_3, fr3_4, fr3_5, fr3_6, fr3_7, fr3_8, fr3_9, fr3_10, fr3_11, fr3_12, fr3_13, fr3_14, fr3_15, fr3_16, fr3_17, fr3_18, fr3_19, fr3_20, fr3_21, fr3_22, fr3_23]
def Fld : List (Str × List (Str × Str × Str)) := Fld0 ++ Fld1 ++ Fld2 ++ Fld3
def tupIn (K : PySem.W.Frag) (a : Addr) : Option (List Value) := match K.lookup a with
  | some o => match o.data with
    | .seq its _ => if o.cls == .type "tuple" && decide (its.size ≤ 1000) then some its.toList else none
    | _ => none
  | none => none
theorem tupIn_sq {K : PySem.W.Frag} {H : Hp} {a : Addr} {us : List Value} {vs : List V} (h : tupIn K a = some us) (r : Vals vs us) : SqT K H a vs := by
  unfold tupIn at h
  split at h
  · rename_i o ho
    split at h
    · rename_i its n hd
      split at h
      · rename_i hc
        cases h
        obtain ⟨h1, h2⟩ := Bool.and_eq_true_iff.mp hc
        refine .inr ⟨o, its, n, ho, ?_, hd, ?_, r⟩
        · exact beq_iff_eq.mp h1
        · have z : (1000 : Nat) ≤ sizeLine := by decide
          have := of_decide_eq_true h2
          omega
      · cases h
    · cases h
  · cases h
def strIs (x : Str) : Value → Bool
  | .str y _ => decide (x = y)
  | _ => false
theorem strIs_rel {x : Str} {u : Value} (h : strIs x u = true) : RelV (.str x) u := by
  unfold strIs at h
  split at h
  · have := of_decide_eq_true h
    subst this
    exact ⟨_, rfl⟩
  · cases h
def strsIs : List Str → List Value → Bool
  | [], [] => true
  | x :: r, u :: us => strIs x u && strsIs r us
  | _, _ => false
theorem strsIs_vals : ∀ {xs : List Str} {us : List Value}, strsIs xs us = true → Vals (xs.map V.str) us
  | [], [], _ => .nil
  | x :: r, u :: us, h => by
    obtain ⟨h1, h2⟩ := Bool.and_eq_true_iff.mp h
    exact .cons (strIs_rel h1) (strsIs_vals h2)
  | [], _ :: _, h => by cases h
  | _ :: _, [], h => by cases h
def rowsIs (K : PySem.W.Frag) : List (Str × Str × Str) → List Value → Bool
  | [], [] => true
  | r :: rs, u :: us => (match u with
    | .ref b => (match tupIn K b with
      | some ys => strsIs [r.1, r.2.1, r.2.2] ys
      | none => false)
    | _ => false) && rowsIs K rs us
  | _, _ => false
/-- a kind's row at a -/
def RowAt (K : PySem.W.Frag) (a : Addr) (rs : List (Str × Str × Str)) : Prop := ∃ as : List Addr, (∀ H, SqT K H a (as.map V.ref)) ∧ as.length = rs.length ∧ ∀ (i : Nat) b r, as[i]? = some b → rs[i]? = some r → ∀ H, SqT K H b [.str r.1, .str r.2.1, .str r.2.2]
theorem rowsIs_at {K : PySem.W.Frag} : ∀ {rs : List (Str × Str × Str)} {us : List Value}, rowsIs K rs us = true → ∃ as : List Addr, Vals (as.map V.ref) us ∧ as.length = rs.length ∧ ∀ (i : Nat) b r, as[i]? = some b → rs[i]? = some r → ∀ H, SqT K H b [.str r.1, .str r.2.1, .str r.2.2]
  | [], [], _ => ⟨[], .nil, rfl, fun i b r e => by simp at e⟩
  | r :: rs, u :: us, h => by
    obtain ⟨h1, h2⟩ := Bool.and_eq_true_iff.mp h
    obtain ⟨as, v, l, p⟩ := rowsIs_at h2
    split at h1
    · rename_i b
      split at h1
      · rename_i ys hy
        refine ⟨b :: as, .cons rfl v, congrArg (· + 1) l, fun i b' r' e1 e2 H => ?_⟩
        cases i with
        | zero =>
          cases e1
          cases e2
          exact tupIn_sq hy (strsIs_vals h1)
        | succ i => exact p i b' r' e1 e2 H
      · cases h1
    · cases h1
  | [], _ :: _, h => by cases h
  | _ :: _, [], h => by cases h
def fldOne (K : PySem.W.Frag) (aF : Addr) (p : Str × List (Str × Str × Str)) : Bool := match PySem.W.nsIn K aF p.1 with
  | some (some (.ref a)) => (match tupIn K a with
    | some us => rowsIs K p.2 us
    | none => false)
  | _ => false
def fldIs (K : PySem.W.Frag) (aF : Addr) : Bool := Fld.all (fldOne K aF)
theorem lookMem {β : Type} {k : Str} {x : β} : ∀ {rows : List (Str × β)}, rows.lookup k = some x → (k, x) ∈ rows
  | [], h => by cases h
  | (a, y) :: r, h => by
    rw [List.lookup_cons] at h
    split at h
    · rename_i e
      cases h
      rw [beq_iff_eq.mp e]
      exact List.mem_cons_self ..
    · exact List.mem_cons_of_mem _ (lookMem h)
theorem fldIs_at {K : PySem.W.Frag} {aF : Addr} (h : fldIs K aF = true) {k : Str} {rs : List (Str × Str × Str)} (hk : Fld.lookup k = some rs) : ∃ a, PySem.W.nsIn K aF k = some (some (.ref a)) ∧ RowAt K a rs := by
  have z := List.all_eq_true.mp h _ (lookMem hk)
  unfold fldOne at z
  split at z
  · rename_i a ha
    split at z
    · rename_i us hu
      obtain ⟨as, v, l, p⟩ := rowsIs_at z
      exact ⟨a, ha, as, fun H => tupIn_sq hu v, l, p⟩
    · cases z
  · cases z
/-- what the program's name FIELDS holds -/
structure Tabs (K : PySem.W.Frag) (w : World) (mg : Str → Option Value) (aF aA : Addr) (eF : Array DictEntry) (nF : Nat) : Prop where
  dF : KDict K w aF eF nF
  mF : mg "FIELDS" = some (.ref aF)
  oF : fldIs K aF = true
  mA : mg "ATTRIBUTES" = some (.ref aA)
  oA : ∀ H, SqT K H aA (attrs.map V.str)
theorem rows_small {k : Str} {rs : List (Str × Str × Str)} (h : Fld.lookup k = some rs) : rs.length ≤ 7 := by
  have z : (Fld.all fun p => decide (p.2.length ≤ 7)) = true := by decide +kernel
  exact of_decide_eq_true (List.all_eq_true.mp z _ (lookMem h))
def namesOf (rs : List (Str × Str × Str)) : List Str := rs.map (·.1)
theorem rows_nodup {k : Str} {rs : List (Str × Str × Str)} (h : Fld.lookup k = some rs) : (namesOf rs).Nodup := by
  have z : (Fld.all fun p => decide (namesOf p.2).Nodup) = true := by decide +kernel
  exact of_decide_eq_true (List.all_eq_true.mp z _ (lookMem h))
abbrev sNI : Stmt := inClass (topS 14) 0
abbrev sDef : Stmt := topS 15
abbrev sFO : Stmt := topS 16
theorem scDef : FnScope ["name", "mark"] ["name", "mark"] (defScope sDef) := ⟨rfl, rfl, rfl, by decide +kernel, rfl, by decide +kernel, by decide +kernel⟩
theorem scFO : FnScope ["kind", "row"] ["kind"] (defScope sFO) := ⟨rfl, rfl, rfl, by decide +kernel, rfl, by decide +kernel, by decide +kernel⟩
abbrev nNI : List Str := ["self", "kind", "parts", "more", "names", "missing", "name", "value", "_", "mark"]
theorem scNI : FnScope nNI ["self", "kind", "parts", "more"] (defScope sNI) := ⟨rfl, rfl, rfl, by decide +kernel, rfl, by decide +kernel, by decide +kernel⟩
/-- a statement that is never come to -/
theorem ps_no {X : Cx} {st : Stmt} : PS X st (fun _ _ _ => False) := ⟨fun pins s σ H D I h => h.elim⟩
theorem str_in {K : PySem.W.Frag} : PySem.W.kitOne K (.type "str") (.type "str") = some true := kit_ty (by decide +kernel)
theorem ixt {K : PySem.W.Frag} (X : Cx) (e : X.K = K) : IxR X (rIxT K) := e ▸ ix_tup
theorem ixl {K : PySem.W.Frag} (X : Cx) (e : X.K = K) : IxR X (rIxL K) := e ▸ ix_list
/-- the built-in names that are what they are -/
structure Blt (mg : Str → Option Value) : Prop where
  isI : mg "isinstance" = none
  st : mg "str" = none
  tp : mg "tuple" = none
  ls : mg "list" = none
  ln : mg "len" = none
  zp : mg "zip" = none
  it : mg "int" = none
  bo : mg "bool" = none
  rg : mg "range" = none
  sm : mg "sum" = none
  rp : mg "repr" = none
def spFO : Sp := fun vs H Q _ => ∃ (k : Str) (rs : List (Str × Str × Str)), vs = [.str k] ∧ Fld.lookup k = some rs ∧ ∀ (H' : Hp) (t : Addr), H t = none → Same H H' → H' t = some (.tup ((namesOf rs).map V.str)) → Q (.ref t) H'
section
variable {P : Program} {w : World} {K : PySem.W.Frag} {mg : Str → Option Value} {base : Heap} {aF aA : Addr} {eF : Array DictEntry} {nF : Nat}
theorem Tabs.kd (T : Tabs K w mg aF aA eF nF) {k : Str} {a : Addr} (h : PySem.W.nsIn K aF k = some (some (.ref a))) : KDct K w aF k (.ref a) := ⟨_, _, _, T.dF.at_, T.dF.lit, h, rfl⟩
theorem ok_fo {f : Addr} {fd : FuncData} (F : Fun K "fields_of" "fields_of" sFO f fd) (T : Tabs K w mg aF aA eF nF) (Z : Blt mg) : FnOk P w K mg base CX0 1 f fd ["kind"] spFO := by
  refine F.ok scFO (fun vs H Q E h => ?_) (fun cdv A outer s H vs Q E hr h => ?_)
  · obtain ⟨k, rs, rfl, _⟩ := h
    rfl
  obtain ⟨k, rs, rfl, hk, q⟩ := h
  obtain ⟨a, ha, as, hs, hl, hp⟩ := fldIs_at T.oF hk
  refine ⟨_, pss_cons (ps_if (PW.pt (pw_or (pt_not (pt_val (pe_callB call_isi (by rfl) Z.isI (by decide +kernel) (pa_cons (pv 0) (pa_cons (pe_bltn (v := .ty "str") (by rfl) Z.st (by decide +kernel) rfl) pa_nil)))))
      (pw_or1 (pt_cmpR (op_notIn_kd T.dF) (pv 0) (pe_glob (v := .ref aF) rfl T.mF rfl) (by rfl))))) (pss_one ps_no) pss_nil)
    (pss_one (ps_ret (pe_callTy call_tuple_of (by rfl) Z.tp (by decide +kernel) (pa_cons (pe_lc (own := [("row", 1)]) (g := gName 1) (tt := tYes) rfl scFO.nd (pi_tup (pe_ix ix_kdict (pe_glob (v := .ref aF) rfl T.mF rfl) (pv 0) (fun _ _ => rfl)))
        (blkOk_by (own := [("row", 1)]) (N := ["kind", "row"]) (sc := defScope sFO) (by decide +kernel)) (fun _ _ _ _ _ => pg_name (i := 1) scFO.nd rfl (.inl rfl)) (fun _ _ _ _ _ => pts_nil) (fun _ _ _ _ _ => pe_ix (ixt _ rfl) (pv 1) pe_int (fun _ _ => rfl))) pa_nil)))), ?_⟩
  refine ⟨_, rfl, .str k, .ty "str", _, _, _, rfl, .ty _, .base (.str k), str_in, _, rfl, iteF ?_⟩
  refine ⟨_, rfl, k, _, rfl, rfl, ha, _, rfl, iteF ?_⟩
  refine ⟨_, rfl, aF, k, .ref a, rfl, rfl, T.kd ha, a, rfl, ⟨_, hs H⟩, fun D nD => ?_⟩
  refine lc_tup (K := K) (a := a) (xs := as.map V.ref) (fun i H1 => Same H H1 ∧ H1 D = some (.lst (((namesOf rs).take i).map V.str))) ⟨same_new nD, by rw [upd_same]; rfl⟩ (fun i H1 _ _ => hs H1) ?_ ?_
  · rintro i x H1 hx ⟨s1, h1⟩
    rw [List.getElem?_map] at hx
    cases hb : as[i]? with
    | none => rw [hb] at hx; cases hx
    | some b =>
      rw [hb] at hx
      cases hx
      have hi : i < rs.length := by
        rcases Nat.lt_or_ge i as.length with z | z
        · omega
        · rw [List.getElem?_eq_none z] at hb; cases hb
      have hr' := List.getElem?_eq_getElem hi
      refine ⟨rfl, ?_⟩
      unfold tYes
      refine iteT ?_
      have ln : (((namesOf rs).take i).map V.str).length < sizeLine := by
        have z : (1000 : Nat) < sizeLine := by decide
        have := rows_small hk
        rw [List.length_map, List.length_take]
        omega
      refine ⟨_, rfl, b, _, 0, .str rs[i].1, rfl, rfl, hp i b _ hb hr' H1, rfl, _, h1, ln, ?_⟩
      refine ⟨fun c o e => ?_, ?_⟩
      · rw [upd_ne (ne_of_none e nD)]; exact s1 _ _ e
      · rw [upd_same]
        have e1 : (namesOf rs).take (i + 1) = (namesOf rs).take i ++ [rs[i].1] := by
          unfold namesOf
          rw [← List.map_take, ← List.map_take, List.take_succ, hr', List.map_append]
          rfl
        rw [e1, List.map_append]
        rfl
  · rintro H1 ⟨s1, h1⟩
    have e0 : (as.map V.ref).length = (namesOf rs).length := by unfold namesOf; rw [List.length_map, List.length_map, hl]
    rw [e0, List.take_length] at h1
    refine ⟨D, _, rfl, .inl ⟨SqL.of h1, fun l nl => q _ l (s1.free nl) (s1.trans (same_new nl)) upd_same⟩⟩
end
end M4

namespace M4
open PySem PySem.Spec PyProof.Rows L2 StX
theorem putK_new {kvs : List (Key × V)} {k : Key} {v : V} (h : k ∉ kvs.map Prod.fst) : putK kvs k v = kvs ++ [(k, v)] := by
  unfold putK
  rw [if_neg]
  intro z
  obtain ⟨p, hp, e⟩ := List.any_eq_true.mp z
  exact h (List.mem_map.mpr ⟨p, hp, of_decide_eq_true e⟩)
def marks : List Str := ["*", "+", "?*"]
/-- an attribute: what **more has for it, or None -/
def atV (m : List (Key × V)) (x : Str) : V := (valV m (.inr x)).getD .non
def nodeFs (k : Str) (m : List (Key × V)) (d : Addr) : List (Str × V) := [("kind", .str k), ("lineno", atV m "lineno"), ("col_offset", atV m "col_offset"), ("end_lineno", atV m "end_lineno"), ("end_col_offset", atV m "end_col_offset"), ("_fields", .ref d)]
/-- keywords are attributes alone -/
def AllAt (m : List (Key × V)) : Prop := ∀ p ∈ m, ∃ x ∈ attrs, p.1 = (Sum.inr x : Key)
theorem fkv_len {ns : List Str} {vs : List V} (h : vs.length ≤ ns.length) : (fkv ns vs).length = vs.length := by
  unfold fkv
  rw [List.length_zipWith]
  omega
theorem zip_keys : ∀ {ns : List Str} {vs : List V}, ∀ p ∈ fkv ns vs, ∃ n ∈ ns, p.1 = Sum.inr n
  | [], _, p, h => by cases h
  | n :: ns, [], p, h => by cases h
  | n :: ns, v :: vs, p, h => by
    rcases List.mem_cons.mp h with e | h
    · exact ⟨n, List.mem_cons_self .., by rw [e]⟩
    · obtain ⟨m, hm, e⟩ := zip_keys p h
      exact ⟨m, List.mem_cons_of_mem _ hm, e⟩
theorem fkv_snoc {ns : List Str} {vs : List V} {nm : Str} {v : V} (hn : ns.Nodup) (h : ns[vs.length]? = some nm) : putK (fkv ns vs) (.inr nm) v = fkv ns (vs ++ [v]) := by
  obtain ⟨A, B, rfl, hA⟩ : ∃ A B, ns = A ++ nm :: B ∧ A.length = vs.length := by
    have hi : vs.length < ns.length := by
      rcases Nat.lt_or_ge vs.length ns.length with q | q
      · exact q
      · rw [List.getElem?_eq_none q] at h; cases h
    refine ⟨ns.take vs.length, ns.drop (vs.length + 1), ?_, by rw [List.length_take]; omega⟩
    rw [List.getElem?_eq_getElem hi] at h
    cases h
    rw [← List.drop_eq_getElem_cons hi, List.take_append_drop]
  have e1 : fkv (A ++ nm :: B) vs = fkv A vs := by
    have z : fkv (A ++ nm :: B) (vs ++ []) = fkv A vs ++ fkv (nm :: B) [] := List.zipWith_append hA
    rw [List.append_nil] at z
    rw [z]
    exact List.append_nil _
  have e2 : fkv (A ++ nm :: B) (vs ++ [v]) = fkv A vs ++ [(Sum.inr nm, v)] := by
    have z : fkv (A ++ nm :: B) (vs ++ [v]) = fkv A vs ++ fkv (nm :: B) [v] := List.zipWith_append hA
    rw [z]
    cases B <;> rfl
  rw [e1, e2, putK_new]
  intro z
  obtain ⟨p, hp, e⟩ := List.mem_map.mp z
  obtain ⟨m, hm, e'⟩ := zip_keys p hp
  rw [e'] at e
  have e := Sum.inr.inj e
  subst e
  rw [List.nodup_append] at hn
  exact hn.2.2 m hm m (List.mem_cons_self ..) rfl
/-- what a field holds that was not given -/
def DefV (C : Addr) (H H' : Hp) (nm mk : Str) (v : V) : Prop :=
  (mk ∈ marks ∧ ∃ l, v = .ref l ∧ H l = none ∧ H' l = some (.lst [])) ∨ (mk ∉ marks ∧ nm = "ctx" ∧ ∃ p dx d, v = .ref p ∧ H p = none ∧ H d = none ∧ H' p = some (.ins C dx (nodeFs "Load" [] d)) ∧ H' d = some (.dK [])) ∨ (mk ∉ marks ∧ nm ≠ "ctx" ∧ v = .non)
theorem DefV.mono {C : Addr} {H H0 H1 H2 : Hp} {nm mk : Str} {v : V} (h : DefV C H H1 nm mk v) (h0 : ∀ b, H b = none → H0 b = none) (k : ∀ b o, H b = none → H1 b = some o → H2 b = some o) : DefV C H0 H2 nm mk v := by
  rcases h with ⟨a, l, e, n, g⟩ | ⟨a, b, p, dx, d, e, n1, n2, g1, g2⟩ | h
  · exact .inl ⟨a, l, e, h0 _ n, k _ _ n g⟩
  · exact .inr (.inl ⟨a, b, p, dx, d, e, h0 _ n1, h0 _ n2, k _ _ n1 g1, k _ _ n2 g2⟩)
  · exact .inr (.inr h)
/-- what stands at the fields stands apart -/
def Apart (ds : List V) : Prop := ∀ (i j : Nat) (a b : Addr), i < j → ds[i]? = some (.ref a) → ds[j]? = some (.ref b) → a ≠ b
theorem Apart.snoc {ds : List V} {v : V} (h : Apart ds) (k : ∀ (i : Nat) (a b : Addr), ds[i]? = some (.ref a) → v = .ref b → a ≠ b) : Apart (ds ++ [v]) := by
  intro i j a b hij e1 e2
  have lj : j < (ds ++ [v]).length := by
    rcases Nat.lt_or_ge j (ds ++ [v]).length with z | z
    · exact z
    · rw [List.getElem?_eq_none z] at e2; cases e2
  rw [List.length_append, List.length_singleton] at lj
  have hi : i < ds.length := by omega
  rw [List.getElem?_append_left hi] at e1
  by_cases hj : j < ds.length
  · rw [List.getElem?_append_left hj] at e2
    exact h i j a b hij e1 e2
  · have ej : j = ds.length := by omega
    subst ej
    rw [List.getElem?_append_right (Nat.le_refl _), Nat.sub_self] at e2
    exact k i a b e1 (Option.some.inj e2)
theorem DefV.nw {C : Addr} {H H' : Hp} {nm mk : Str} {b : Addr} (h : DefV C H H' nm mk (.ref b)) : H b = none ∧ H' b ≠ none := by
  rcases h with ⟨_, l, e, n, g⟩ | ⟨_, _, p, dx, d, e, n, _, g, _⟩ | ⟨_, _, e⟩
  · cases e
    exact ⟨n, by rw [g]; simp⟩
  · cases e
    exact ⟨n, by rw [g]; simp⟩
  · cases e
/-- a node of the kind k, new behind H -/
structure NewN (C : Addr) (H H' : Hp) (p : Addr) (k : Str) (m : List (Key × V)) (rs : List (Str × Str × Str)) (parts : List V) (d : Addr) (ds : List V) : Prop where
  sm : Same H H'
  np : H p = none
  nd : H d = none
  at_ : ∃ dx, H' p = some (.ins C dx (nodeFs k m d))
  dk : H' d = some (.dK (fkv (namesOf rs) (parts ++ ds)))
  len : (parts ++ ds).length = rs.length
  df : ∀ (i : Nat) v r, ds[i]? = some v → rs[parts.length + i]? = some r → DefV C H H' r.1 r.2.2 v
  ap : Apart ds
/-- Node(kind, *parts) -/
def tNode (n : Nat) (C : Addr) (t : TA) : TE := fun σ H Q => t σ H fun vs H1 => ∃ (k : Str) (rs : List (Str × Str × Str)) (parts : List V), vs = .str k :: parts ∧ Fld.lookup k = some rs ∧ parts.length ≤ rs.length ∧ (n = 1 ∨ rs = []) ∧
  ∀ (H2 : Hp) (p d : Addr) (ds : List V), NewN C H1 H2 p k [] rs parts d ds → Q (.ref p) H2
def spIniB (n : Nat) (C : Addr) : Sp := fun vs H Q _ => ∃ (x dx tp dm : Addr) (m : List (Key × V)) (k : Str) (rs : List (Str × Str × Str)) (parts : List V), vs = [.ref x, .str k, .ref tp, .ref dm] ∧ H x = some (.ins C dx []) ∧ H tp = some (.tup parts) ∧ H dm = some (.dK m) ∧ AllAt m ∧ m.length ≤ 4 ∧
  Fld.lookup k = some rs ∧ parts.length ≤ rs.length ∧ (n = 1 ∨ rs = []) ∧
  ∀ (H' : Hp) (d : Addr) (ds : List V), (∀ b o, b ≠ x → H b = some o → H' b = some o) → H d = none → H' x = some (.ins C dx (nodeFs k m d)) → H' d = some (.dK (fkv (namesOf rs) (parts ++ ds))) → (parts ++ ds).length = rs.length →
    (∀ (i : Nat) v r, ds[i]? = some v → rs[parts.length + i]? = some r → DefV C H H' r.1 r.2.2 v) → Apart ds → Q .non H'
def spIni (n : Nat) (C : Addr) : Sp := fun vs H Q E => ∃ ws rest, vs = ws ++ rest ∧ ws.length = (["self", "kind"] : List Str).length ∧ rest.length ≤ sizeLine ∧ ∀ p d, H p = Option.none → H d = Option.none → d ≠ p → spIniB n C (ws ++ [V.ref p, V.ref d]) (upd (upd H p (.tup rest)) d (.dK [])) Q E
theorem allAt_nil : AllAt [] := fun p hp => by cases hp
theorem spIniB_of {n : Nat} {C x dx tp dm : Addr} {H1 : Hp} {kd : Str} {m : List (Key × V)} {rs : List (Str × Str × Str)} {parts : List V} {Q : VK} {E : XK} (nx : H1 x = none) (ndx : H1 dx = none) (hd : dx ≠ x)
    (nt : (upd (upd H1 dx (.own x)) x (.ins C dx [])) tp = none) (nm : (upd (upd H1 dx (.own x)) x (.ins C dx [])) dm = none) (hm' : dm ≠ tp) (ha : AllAt m) (h4 : m.length ≤ 4) (hk : Fld.lookup kd = some rs) (hl : parts.length ≤ rs.length) (hn : n = 1 ∨ rs = [])
    (q : ∀ (H2 : Hp) (d : Addr) (ds : List V), NewN C H1 H2 x kd m rs parts d ds → Q (.ref x) H2) :
    spIniB n C [.ref x, .str kd, .ref tp, .ref dm] (upd (upd (upd (upd H1 dx (.own x)) x (.ins C dx [])) tp (.tup parts)) dm (.dK m)) (fun v H2 => v = .non ∧ Q (.ref x) H2) E := by
  have ne : ∀ {a b : Addr} {H : Hp} {o : HO}, H a = none → H b = some o → b ≠ a := fun {a b H o} h1 h2 z => by rw [z, h1] at h2; cases h2
  have hx0 : (upd (upd H1 dx (.own x)) x (.ins C dx [])) x = some (.ins C dx []) := upd_same
  have tx : x ≠ tp := ne nt hx0
  have mx : x ≠ dm := ne nm hx0
  refine ⟨x, dx, tp, dm, m, kd, rs, parts, rfl, ?_, ?_, upd_same, ha, h4, hk, hl, hn, fun H' d ds kp nd at_ dk len df ap => ⟨rfl, q H' d ds ⟨?_, nx, ?_, ⟨dx, at_⟩, dk, len, ?_, ap⟩⟩⟩
  · rw [upd_ne mx, upd_ne tx]; exact hx0
  · rw [upd_ne hm'.symm]; exact upd_same
  · intro b o e
    have n1 := ne nx e
    have n2 := ne ndx e
    have e2 : (upd (upd H1 dx (.own x)) x (.ins C dx [])) b = some o := by rw [upd_ne n1, upd_ne n2]; exact e
    refine kp b o n1 ?_
    rw [upd_ne (ne nm e2), upd_ne (ne nt e2)]
    exact e2
  · cases z : H1 d with
    | none => rfl
    | some o =>
      have n1 := ne nx z
      have n2 := ne ndx z
      have e2 : (upd (upd H1 dx (.own x)) x (.ins C dx [])) d = some o := by rw [upd_ne n1, upd_ne n2]; exact z
      rw [upd_ne (ne nm e2), upd_ne (ne nt e2), e2] at nd
      cases nd
  · intro i v r g1 g2
    refine (df i v r g1 g2).mono (fun b hb => ?_) fun b o _ g => g
    cases z : H1 b with
    | none => rfl
    | some o =>
      have n1 := ne nx z
      have n2 := ne ndx z
      have e2 : (upd (upd H1 dx (.own x)) x (.ins C dx [])) b = some o := by rw [upd_ne n1, upd_ne n2]; exact z
      rw [upd_ne (ne nm e2), upd_ne (ne nt e2), e2] at hb
      cases hb
theorem pe_node {X : Cx} {n k : Nat} {C f : Addr} {e : Expr} {es : List Expr} {t : TA} {p pos : Pos} (M : Mk X.K C f) (F : FnR X.prog X.w X.K X.mg X.base CX0 k f (spIni n C)) (hr : Room (k + 1) X.A) (hg : Gl X "Node") (hm : X.mg "Node" = some (.ref C)) (ha : PA X (e :: es) t)
    (he : starEach (e :: es) X.env = (false, eval e X.env) :: starEach es X.env := by rfl) (hpl : (backTo pos (starEach es X.env)).any (·.1) = false := by rfl) : PE X (.Call (.Name "Node" p) (e :: es) [] pos) (tNode n C t) := by
  refine ⟨fun pins s σ H Q I h => ?_⟩
  refine wpAny_Call_Name_kw (ld_glob I hg hm ?_ (by decide))
  refine PySem.W.callWith_K (h₀ := X.base) I.ok.mod.kin M.kp (thn (ha.run pos pins s σ H _ I h) fun us s1 ⟨vs, H1, I1, r, q⟩ => ⟨I1.kIn, ?_⟩) he hpl
  obtain ⟨kd, rs, parts, rfl, hk, hl, hn, q⟩ := q
  refine run_makeR (E := E0) M F hr pass0 I1 r fun x dx nx ndx hd => ⟨[.ref x, .str kd], parts, rfl, rfl, ?_, fun tp dm nt nm hm' => ?_⟩
  · have := rows_small hk
    have z : (1000 : Nat) < sizeLine := by decide
    omega
  exact spIniB_of nx ndx hd nt nm hm' allAt_nil (Nat.zero_le 4) hk hl hn fun H2 d ds N => q H2 x d ds N
/-- Node(kind, *parts, **more) -/
def spIniK (n : Nat) (C : Addr) (ks : List Str) : List V → List V → Hp → VK → XK → Prop := fun vs zs H Q E => ∃ ws rest, vs = ws ++ rest ∧ ws.length = (["self", "kind"] : List Str).length ∧ rest.length ≤ sizeLine ∧ ∀ p d, H p = Option.none → H d = Option.none → d ≠ p → spIniB n C (ws ++ [V.ref p, V.ref d]) (upd (upd H p (.tup rest)) d (.dK (fkv ks zs))) Q E
theorem run_makeRK {X : Cx} {CX : CXT} {k : Nat} {f C : Addr} {ks : List Str} {sp : List V → List V → Hp → VK → XK → Prop} {E : XK} {pins : List (Addr × Obj)} {σ : L2.St} {H : Hp} {s : Shared} {Q : VK} {us ws : List Value} {vs zs : List V} (M : Mk X.K C f) (F : FnRK X.prog X.w X.K X.mg X.base CX k f ks sp)
    (hr : Room (k + 1) X.A) (hx : Passes CX X E) (I : Inv X pins σ H s) (r : Vals vs us) (rz : Vals zs ws) (l2 : zs.length = ks.length)
    (h : ∀ x dx, H x = Option.none → H dx = Option.none → dx ≠ x → sp (V.ref x :: vs) zs (upd (upd H dx (.own x)) x (.ins C dx [])) (fun v H2 => v = .non ∧ Q (.ref x) H2) E) :
    wpAny (model X.prog X.w) X.A (call (.ref C) us (ks.zip ws)) (EP X pins σ Q) X.xe s := by
  have hq := h (s.heap.objs.size + 1) s.heap.objs.size (I.hok.fresh (Nat.le_succ _)) (I.hok.fresh (Nat.le_refl _)) (Nat.ne_of_lt (Nat.lt_succ_self _))
  have I2 := Inv.made (C := C) I
  have r2 : Vals (V.ref (s.heap.objs.size + 1) :: vs) (Value.ref (s.heap.objs.size + 1) :: us) := .cons rfl r
  refine wpAny_call (make_map (f := f) I.kIn M.makes M.init (beq_iff_eq.mp M.fn) (codeAny_mono (F _ X.stack _ _ (Value.ref (s.heap.objs.size + 1) :: us) ws _ _ _ E (hr.make C us (ks.zip ws)) (I2.env0.make C us (ks.zip ws)) r2 rz (rz.length.symm.trans l2) hq) fun r s' hq' => ?_))
  cases r with
  | error e => exact hx pins σ _ _ e s' I2 hq'
  | ok fl =>
    cases fl with
    | ret u =>
      obtain ⟨v, H', I3, rv, ev, q3⟩ := I2.after hq'
      subst ev
      exact ⟨rv, ⟨V.ref (s.heap.objs.size + 1), H', I3, rfl, q3⟩⟩
    | next => exact False.elim hq'
    | brk => exact False.elim hq'
    | cont => exact False.elim hq'
theorem fkv_at {zs : List V} : ∀ {ks : List Str}, (∀ x ∈ ks, x ∈ attrs) → AllAt (fkv ks zs) := fun {ks} h p hp => by
  obtain ⟨x, hx, e⟩ := zip_keys p hp
  exact ⟨x, h x hx, e⟩
def tNodeK (n : Nat) (C : Addr) (ks : List Str) (t tk : TA) : TE := fun σ H Q => t σ H fun vs H1 => tk σ H1 fun zs H2 => ∃ (k : Str) (rs : List (Str × Str × Str)) (parts : List V), vs = .str k :: parts ∧ zs.length = ks.length ∧ Fld.lookup k = some rs ∧ parts.length ≤ rs.length ∧ (n = 1 ∨ rs = []) ∧
  ∀ (H3 : Hp) (p d : Addr) (ds : List V), NewN C H2 H3 p k (fkv ks zs) rs parts d ds → Q (.ref p) H3
theorem pe_nodeK {X : Cx} {n k : Nat} {C f : Addr} {ks : List Str} {e : Expr} {es : List Expr} {kws : List Keyword} {t tk : TA} {p pos : Pos} (M : Mk X.K C f) (F : FnRK X.prog X.w X.K X.mg X.base CX0 k f ks (spIniK n C ks)) (hr : Room (k + 1) X.A) (hg : Gl X "Node") (hm : X.mg "Node" = some (.ref C)) (ha : PA X (e :: es) t) (hkw : PK X kws tk)
    (hat : ∀ x ∈ ks, x ∈ attrs) (h4 : ks.length ≤ 4)
    (hall : (backToKw pos (keywordEach kws X.env)).all (·.1.isSome) = true := by rfl) (hks : (backToKw pos (keywordEach kws X.env)).filterMap (·.1) = ks := by rfl)
    (he : starEach (e :: es) X.env = (false, eval e X.env) :: starEach es X.env := by rfl) (hpl : ((backTo pos (starEach (e :: es) X.env)).any (·.1) || (backToKw pos (keywordEach kws X.env)).any (·.1.isNone)) = false := by rfl) :
    PE X (.Call (.Name "Node" p) (e :: es) kws pos) (tNodeK n C ks t tk) := by
  refine ⟨fun pins s σ H Q I h => ?_⟩
  refine wpAny_Call_Name_kw (ld_glob I hg hm ?_ (by decide))
  refine PySem.W.callWith_KW (h₀ := X.base) I.ok.mod.kin M.kp hall (thn (ha.run pos pins s σ H _ I h) fun us s1 ⟨vs, H1, I1, r, q⟩ => ?_) hpl he
  refine thn (hkw.run pos pins s1 σ H1 _ I1 q) fun ws s2 ⟨zs, H2, I2, rz, q2⟩ => ⟨I2.kIn, ?_⟩
  obtain ⟨kd, rs, parts, rfl, lz, hk, hl, hn, q⟩ := q2
  rw [hks]
  refine run_makeRK (E := E0) M F hr pass0 I2 r rz lz fun x dx nx ndx hd => ⟨[.ref x, .str kd], parts, rfl, rfl, ?_, fun tp dm nt nm hm' => ?_⟩
  · have := rows_small hk
    have z : (1000 : Nat) < sizeLine := by decide
    omega
  have l4 : (fkv ks zs).length ≤ 4 := by unfold fkv; rw [List.length_zipWith]; omega
  exact spIniB_of nx ndx hd nt nm hm' (fkv_at hat) l4 hk hl hn fun H3 d ds N => q H3 x d ds N
end M4

namespace M4
open PySem PySem.Spec PyProof.Rows L2 StX
def spDef (n : Nat) (C : Addr) : Sp := fun vs H Q _ => ∃ nm mk : Str, vs = [.str nm, .str mk] ∧ n = 1 ∧ ∀ (H' : Hp) (v : V), Same H H' → DefV C H H' nm mk v → Q v H'
section
variable {P : Program} {w : World} {K : PySem.W.Frag} {mg : Str → Option Value} {base : Heap} {aF aM C fI : Addr} {eF : Array DictEntry} {nF : Nat}
theorem no_def {f : Addr} {fd : FuncData} {k : Nat} : FnOk P w K mg base CX0 k f fd ["name", "mark"] (spDef 0 C) := by
  have no : ∀ vs H Q E, ¬ spDef 0 C vs H Q E := fun vs H Q E h => by
    obtain ⟨nm, mk, _, h1, _⟩ := h
    omega
  exact ⟨fun vs H Q E h => absurd h (no vs H Q E), fun A outer s H args us vs Q E _ _ _ _ h => absurd h (no vs H Q E)⟩
theorem marks_flat : (marks.map V.str).all flatV = true := by decide +kernel
theorem marks_in (mk : Str) : inV (.str mk) (marks.map V.str) = decide (mk ∈ marks) := by
  by_cases h : mk ∈ marks
  · rw [decide_eq_true h]
    unfold marks at h
    rcases List.mem_cons.mp h with rfl | h
    · decide +kernel
    rcases List.mem_cons.mp h with rfl | h
    · decide +kernel
    rcases List.mem_cons.mp h with rfl | h
    · decide +kernel
    cases h
  · rw [decide_eq_false h]
    unfold inV
    rw [List.any_eq_false]
    intro x hx
    obtain ⟨y, hy, rfl⟩ := List.mem_map.mp hx
    have ne : y ≠ mk := fun z => h (z ▸ hy)
    unfold eqV
    simp [ne, Ne.symm ne]
theorem ld : Fld.lookup ("Load" : Str) = some [] := by decide +kernel
theorem ok_def {f : Addr} {fd : FuncData} (F : Fun K "_default" "_default" sDef f fd) (mM : mg "LIST_MARKS" = some (.ref aM)) (hM : ∀ H, SqT K H aM (marks.map V.str)) (M : Mk K C fI) (mN : mg "Node" = some (.ref C))
    {k : Nat} (N0 : FnR P w K mg base CX0 k fI (spIni 0 C)) : FnOk P w K mg base CX0 (k + 2) f fd ["name", "mark"] (spDef 1 C) := by
  refine F.ok scDef (fun vs H Q E h => ?_) (fun cdv A outer s H vs Q E hr h => ?_)
  · obtain ⟨nm, mk, rfl, _⟩ := h
    rfl
  obtain ⟨nm, mk, rfl, _, q⟩ := h
  refine ⟨_, pss_cons (ps_if (pt_cmpR op_in_seq (pv 1) (pe_glob (v := .ref aM) rfl mM rfl) (by rfl)) (pss_one (ps_ret (pe_lst pa_nil))) pss_nil)
    (pss_cons (ps_if (pt_cmpR op_eq (pv 0) pe_str (nomark _)) (pss_one (ps_ret (pe_node M N0 hr rfl mN (pa_cons pe_str pa_nil)))) pss_nil)
    (pss_one (ps_ret pe_non))), ?_⟩
  refine ⟨_, rfl, aM, _, rfl, .inr (hM H), rfl, marks_flat, _, rfl, ?_⟩
  rw [if_neg (by decide), marks_in]
  by_cases hm : mk ∈ marks
  · rw [decide_eq_true hm]
    refine iteT ?_
    refine ⟨Nat.zero_le _, fun l nl => q _ _ (same_new nl) (.inl ⟨hm, l, rfl, nl, upd_same⟩)⟩
  · rw [decide_eq_false hm]
    refine iteF ?_
    refine ⟨_, rfl, rfl, _, rfl, ?_⟩
    refine ite2 (fun c => ?_) (fun c => ?_)
    · have c : nm = "ctx" := V.str.inj (of_decide_eq_true c)
      refine ⟨"Load", [], [], rfl, ld, Nat.le_refl 0, .inr rfl, fun H2 p d ds N => ?_⟩
      obtain ⟨dx, hp⟩ := N.at_
      have hd := N.dk
      exact q H2 _ N.sm (.inr (.inl ⟨hm, c, p, dx, d, rfl, N.np, N.nd, hp, hd⟩))
    · have c : ¬ nm = "ctx" := by simpa using c
      exact q H _ (Same.refl H) (.inr (.inr ⟨hm, c, rfl⟩))
end
end M4

namespace M4
open PySem PySem.Spec PyProof.Rows L2 StX RZ
theorem sl_from {K : PySem.W.Frag} {H : Hp} {a : Addr} {xs : List V} {n : Nat} {Q : VK} (h : SqT K H a xs) (hn : n ≤ xs.length) (q : ∀ p H', Same H H' → SqT K H' p (xs.drop n) → Q (.ref p) H') : rSlA K (.ref a) (some (n : Int)) none H Q := by
  refine ⟨a, xs, rfl, h, fun z => ?_, fun _ p np => ?_⟩
  · rw [HT.sIx_nat] at z
    have e : n = 0 ∨ xs = [] := by
      rcases Nat.eq_zero_or_pos n with e | e
      · exact .inl e
      · right
        have : xs.length = 0 := by omega
        exact List.eq_nil_of_length_eq_zero this
    refine q a H (Same.refl H) ?_
    rcases e with e | e
    · rw [e, List.drop_zero]; exact h
    · rw [e, List.drop_nil]; rw [e] at h; exact h
  · refine q p _ (same_new np) (SqT.of ?_)
    rw [upd_same]
    have e : cutV xs (some (n : Int)) none = xs.drop n := by
      unfold cutV
      rw [HT.sIx_nat, HT.sIx_none, Nat.min_eq_left hn]
      exact List.take_of_length_le (by rw [List.length_drop]; omega)
    rw [e]
structure NodeF (K : PySem.W.Frag) (C : Addr) : Prop where
  cl : Cls K C
  n1 : NoAttr K C "kind"
  n2 : NoAttr K C "lineno"
  n3 : NoAttr K C "col_offset"
  n4 : NoAttr K C "end_lineno"
  n5 : NoAttr K C "end_col_offset"
  n6 : NoAttr K C "_fields"
theorem walk_zipT {K : PySem.W.Frag} {a b : Addr} {xs ys : List V} {n : Nat} (hn : n = min xs.length ys.length) : Walk (ItzT K a b) n (fun H => SqT K H a xs ∧ SqT K H b ys) (YPair (fun i => xs[i]?) (fun i => ys[i]?)) := by
  refine ⟨fun i H hi q => ⟨xs, ys, xs[i]'(by omega), ys[i]'(by omega), q.1, q.2, by simp, by simp⟩, fun H q => ⟨xs, ys, q.1, q.2, by omega⟩, fun i H x H' _ q y => ?_⟩
  obtain ⟨T, x', y', h1, h2, h3, h4, h5⟩ := y
  exact ⟨T, x', y', h1, h2, h3, h4 xs q.1, h5 ys q.2⟩
theorem putF_new {f : Str} {v : V} : ∀ {fs : List (Str × V)}, f ∉ fs.map Prod.fst → putF f v fs = fs ++ [(f, v)]
  | [], _ => rfl
  | (g, x) :: r, h => by
    have ne : g ≠ f := fun z => h (by rw [z]; exact List.mem_cons_self ..)
    show (if g = f then _ else _) = _
    rw [if_neg ne, putF_new (fs := r) (fun z => h (List.mem_cons_of_mem _ z))]
    rfl
def nf1 (k : Str) : List (Str × V) := [("kind", .str k)]
def nf2 (k : Str) (m : List (Key × V)) : List (Str × V) := [("kind", .str k), ("lineno", atV m "lineno")]
def nf3 (k : Str) (m : List (Key × V)) : List (Str × V) := [("kind", .str k), ("lineno", atV m "lineno"), ("col_offset", atV m "col_offset")]
def nf4 (k : Str) (m : List (Key × V)) : List (Str × V) := [("kind", .str k), ("lineno", atV m "lineno"), ("col_offset", atV m "col_offset"), ("end_lineno", atV m "end_lineno")]
def nf5 (k : Str) (m : List (Key × V)) : List (Str × V) := [("kind", .str k), ("lineno", atV m "lineno"), ("col_offset", atV m "col_offset"), ("end_lineno", atV m "end_lineno"), ("end_col_offset", atV m "end_col_offset")]
theorem nf1_put (k : Str) (m : List (Key × V)) : putF "lineno" (atV m "lineno") (nf1 k) = nf2 k m := putF_new (by show ("lineno" : Str) ∉ (["kind"] : List Str); decide +kernel)
theorem nf2_put (k : Str) (m : List (Key × V)) : putF "col_offset" (atV m "col_offset") (nf2 k m) = nf3 k m := putF_new (by show ("col_offset" : Str) ∉ (["kind", "lineno"] : List Str); decide +kernel)
theorem nf3_put (k : Str) (m : List (Key × V)) : putF "end_lineno" (atV m "end_lineno") (nf3 k m) = nf4 k m := putF_new (by show ("end_lineno" : Str) ∉ (["kind", "lineno", "col_offset"] : List Str); decide +kernel)
theorem nf4_put (k : Str) (m : List (Key × V)) : putF "end_col_offset" (atV m "end_col_offset") (nf4 k m) = nf5 k m := putF_new (by show ("end_col_offset" : Str) ∉ (["kind", "lineno", "col_offset", "end_lineno"] : List Str); decide +kernel)
theorem nf5_put (k : Str) (m : List (Key × V)) (d : Addr) : putF "_fields" (V.ref d) (nf5 k m) = nodeFs k m d := putF_new (by show ("_fields" : Str) ∉ (["kind", "lineno", "col_offset", "end_lineno", "end_col_offset"] : List Str); decide +kernel)
/-- while a node is made: its attributes fs so far -/
structure Ini (H : Hp) (C x dx tp dm tn : Addr) (m : List (Key × V)) (parts : List V) (ns : List Str) (fs : List (Str × V)) (H5 : Hp) : Prop where
  kp : ∀ b o, b ≠ x → H b = some o → H5 b = some o
  hx : H5 x = some (.ins C dx fs)
  htp : H5 tp = some (.tup parts)
  hdm : H5 dm = some (.dK m)
  htn : H5 tn = some (.tup (ns.map V.str))
theorem Ini.fld {H H5 : Hp} {C x dx tp dm tn : Addr} {m : List (Key × V)} {parts : List V} {ns : List Str} {fs fs' : List (Str × V)} (I : Ini H C x dx tp dm tn m parts ns fs H5) : Ini H C x dx tp dm tn m parts ns fs' (upd H5 x (.ins C dx fs')) := by
  have n1 : tp ≠ x := fun z => by have := I.htp; rw [z, I.hx] at this; cases this
  have n2 : dm ≠ x := fun z => by have := I.hdm; rw [z, I.hx] at this; cases this
  have n3 : tn ≠ x := fun z => by have := I.htn; rw [z, I.hx] at this; cases this
  exact ⟨fun b o n e => by rw [upd_ne n]; exact I.kp b o n e, upd_same, by rw [upd_ne n1]; exact I.htp, by rw [upd_ne n2]; exact I.hdm, by rw [upd_ne n3]; exact I.htn⟩
theorem Ini.up {H H5 H6 : Hp} {C x dx tp dm tn : Addr} {m : List (Key × V)} {parts : List V} {ns : List Str} {fs : List (Str × V)} (I : Ini H C x dx tp dm tn m parts ns fs H5) (s : Same H5 H6) : Ini H C x dx tp dm tn m parts ns fs H6 :=
  ⟨fun b o n e => s _ _ (I.kp b o n e), s _ _ I.hx, s _ _ I.htp, s _ _ I.hdm, s _ _ I.htn⟩
theorem strs_flat : ∀ xs : List V, (∀ v ∈ xs, ∃ y, v = V.str y) → xs.all flatV = true := fun xs h => by
  rw [List.all_eq_true]
  intro v hv
  obtain ⟨y, rfl⟩ := h v hv
  rfl
theorem inV_strs {x : Str} (h : x ∈ attrs) : inV (.str x) (attrs.map V.str) = true := by
  unfold attrs at h
  rcases List.mem_cons.mp h with rfl | h
  · decide +kernel
  rcases List.mem_cons.mp h with rfl | h
  · decide +kernel
  rcases List.mem_cons.mp h with rfl | h
  · decide +kernel
  rcases List.mem_cons.mp h with rfl | h
  · decide +kernel
  cases h
theorem row_at {k : Str} {rs : List (Str × Str × Str)} (h : Fld.lookup k = some rs) {r : Str × Str × Str} (hr : r ∈ rs) : r.1 ∉ attrs := by
  have z : (Fld.all fun p => p.2.all fun r => !attrs.contains r.1) = true := by decide +kernel
  have z1 := List.all_eq_true.mp (List.all_eq_true.mp z _ (lookMem h)) r hr
  intro hm
  have z2 : attrs.contains r.1 = true := List.contains_iff_mem.mpr hm
  rw [z2] at z1
  cases z1
theorem not_at {m : List (Key × V)} {x : Str} (hm : AllAt m) (hx : x ∉ attrs) : valV m (Sum.inr x) = none := by
  unfold valV
  have : (m.find? fun kv => decide (kv.1 = (Sum.inr x : Key))) = none := by
    rw [List.find?_eq_none]
    intro p hp z
    obtain ⟨y, hy, e⟩ := hm p hp
    have e2 := of_decide_eq_true z
    rw [e] at e2
    exact hx (Sum.inr.inj e2 ▸ hy)
  rw [this]
  rfl
section
variable {P : Program} {w : World} {K : PySem.W.Frag} {mg : Str → Option Value} {base : Heap} {aF aA C : Addr} {eF : Array DictEntry} {nF : Nat}
theorem ini_core {f fO fD : Addr} {dO dD : FuncData} (T : Tabs K w mg aF aA eF nF) (Z : Blt mg) (N : NodeF K C)
    (O : FnOk P w K mg base CX0 1 fO dO ["kind"] spFO) (bO : Binds K dO ["kind"] []) (kO : PySem.W.keepIn K (.ref fO) = true) (mO : mg "fields_of" = some (.ref fO))
    (bD : Binds K dD ["name", "mark"] []) (kD : PySem.W.keepIn K (.ref fD) = true) (mD : mg "_default" = some (.ref fD)) {n k : Nat} (hk1 : 1 ≤ k) (D : FnOk P w K mg base CX0 k fD dD ["name", "mark"] (spDef n C))
    {cdv : Value} (A : Around) (outer : List Env) (s : Shared) (H : Hp) (vs : List V) (Q : VK) (E : XK) (hr : Room k (A.deeper (envOfC "Node.__init__" (defScope sNI) s.heap.objs.size f cdv))) (h : spIniB n C vs H Q E) :
    ∃ t, PSs (cxOf CX0 P w K mg base nNI "Node.__init__" (defScope sNI) f cdv A outer s H E) (defBody sNI) t ∧ t { nx := fun _ H' => Q .non H', rt := Q } (start nNI vs) H := by
  have hr1 := hr.mono hk1
  obtain ⟨x, dx, tp, dm, m, kd, rs, parts, rfl, hx, htp, hdm, hm, h4, hk, hl, hn, q⟩ := h
  have main : ∃ t, PSs (cxOf CX0 P w K mg base nNI "Node.__init__" (defScope sNI) f cdv A outer s H E).nox (defBody sNI) t ∧ t { nx := fun _ H' => Q .non H', rt := Q } (start nNI [.ref x, .str kd, .ref tp, .ref dm]) H := by
    refine ⟨_, pss_cons (ps_set (i := 4) scNI.nd rfl (.inl rfl) (pe_call O hr1 rfl mO kO bO .nil pass0 (pa_cons (pv 1) pa_nil)))
      (pss_cons (ps_if (pt_cmpR op_gt (pe_callB call_len_seq rfl Z.ln PySem.boot_len (pa_cons (pv 2) pa_nil)) (pe_callB call_len_seq rfl Z.ln PySem.boot_len (pa_cons (pv 4) pa_nil)) (nomark _)) (pss_one ps_no) pss_nil)
      (pss_cons (ps_set (i := 5) scNI.nd rfl (.inl rfl) (pe_slice sl_tupA (pv 4) (po_some (pe_callB call_len_seq rfl Z.ln PySem.boot_len (pa_cons (pv 2) pa_nil))) po_none))
      (pss_cons (ps_lock (ps_for PassesOwn.never rfl (pi_keys (pv 3)) (pg_name (i := 6) scNI.nd rfl (.inl rfl)) (pss_one (ps_if (PW.pt (pw_and (pt_cmpR op_notIn_seq (pv 6) (pv 5) (by rfl)) (pw_and1 (pt_cmpR op_notIn_seq (pv 6) (pe_glob (v := .ref aA) rfl T.mA rfl) (by rfl))))) (pss_one ps_no) pss_nil))))
      (pss_cons (ps_fld (pv 0) (pv 1) rfl)
      (pss_cons (ps_fld (pv 0) (pe_dget1 (hu_of hr) (pv 3) pe_str ⟨rfl, rfl, rfl, rfl⟩) rfl)
      (pss_cons (ps_fld (pv 0) (pe_dget1 (hu_of hr) (pv 3) pe_str ⟨rfl, rfl, rfl, rfl⟩) rfl)
      (pss_cons (ps_fld (pv 0) (pe_dget1 (hu_of hr) (pv 3) pe_str ⟨rfl, rfl, rfl, rfl⟩) rfl)
      (pss_cons (ps_fld (pv 0) (pe_dget1 (hu_of hr) (pv 3) pe_str ⟨rfl, rfl, rfl, rfl⟩) rfl)
      (pss_cons (ps_fld (pv 0) pe_dnewK rfl)
      (pss_cons (ps_for PassesOwn.never rfl (pi_zipA rfl Z.zp (pa_cons (pv 4) (pa_cons (pv 2) pa_nil))) (pg_tup rfl (pgs_cons (pg_name (i := 6) scNI.nd rfl (.inl rfl)) (pgs_cons (pg_name (i := 7) scNI.nd rfl (.inl rfl)) pgs_nil)))
          (pss_one (ps_dput (hu_of hr) (pe_fld (pv 0) rfl) (pv 6) (pv 7) (by rfl))))
      (pss_one (ps_for PassesOwn.never rfl (pi_tup (pe_slice sl_tupA (pe_ix ix_kdict (pe_glob (v := .ref aF) rfl T.mF rfl) (pv 1) (fun _ _ => rfl)) (po_some (pe_callB call_len_seq rfl Z.ln PySem.boot_len (pa_cons (pv 2) pa_nil))) po_none))
          (pg_tup rfl (pgs_cons (pg_name (i := 6) scNI.nd rfl (.inl rfl)) (pgs_cons (pg_name (i := 8) scNI.nd rfl (.inl rfl)) (pgs_cons (pg_name (i := 9) scNI.nd rfl (.inl rfl)) pgs_nil))))
          (pss_one (ps_dput (hu_of hr) (pe_fld (pv 0) rfl) (pv 6) (pe_ifExp (pt_cmp (pc_din (hu_of hr) (pv 6) (pv 3))) (pe_dget (hu_of hr) (pv 3) (pv 6) (fun _ _ => rfl))
            (pe_call D hr rfl mD kD bD .nil pass0 (pa_cons (pv 6) (pa_cons (pv 9) pa_nil)))) (by rfl))))))))))))))), ?_⟩
    refine ⟨_, rfl, kd, rs, rfl, hk, fun H1 tn ntn s1 htn => ?_⟩
    have hx1 := s1 _ _ hx
    have htp1 := s1 _ _ htp
    have hdm1 := s1 _ _ hdm
    have fr1 : ∀ b o, H b = some o → H1 b = some o := s1
    refine ⟨_, rfl, tp, _, rfl, .inr (SqT.of htp1), _, rfl, tn, _, rfl, .inr (SqT.of htn), _, _, rfl, rfl, _, rfl, ?_⟩
    have hnl : (namesOf rs).length = rs.length := by unfold namesOf; rw [List.length_map]
    refine ite2 (fun c => ?_) (fun _ => ?_)
    · have c := of_decide_eq_true c
      rw [List.length_map, hnl] at c
      omega
    refine ⟨_, rfl, _, rfl, tp, _, rfl, .inr (SqT.of htp1), _, rfl, ?_⟩
    dsimp only [tNoPart]
    refine sl_from (K := K) (SqT.of htn) (by rw [List.length_map, hnl]; exact hl) fun pm H2 s2 hpm => ?_
    have I2 : Ini H C x dx tp dm tn m parts (namesOf rs) [] H2 := ⟨fun b o _ e => s2 _ _ (s1 _ _ e), s2 _ _ hx1, s2 _ _ htp1, s2 _ _ hdm1, s2 _ _ htn⟩
    refine ⟨dm, .dK m, I2.hdm, trivial, fun od => ?_⟩
    refine ⟨_, rfl, dm, od, rfl, .inl ⟨m, upd_same, ?_⟩⟩
    have hpm' : SqT K (upd H2 dm (.frz od (.dK m))) pm (((namesOf rs).map V.str).drop parts.length) := by
      rcases hpm with (h | ⟨o, h⟩) | h
      · exact .inl (.inl (by rw [upd_ne (fun z => by rw [z, I2.hdm] at h; cases h)]; exact h))
      · exact .inl (.inr ⟨o, by rw [upd_ne (fun z => by rw [z, I2.hdm] at h; cases h)]; exact h⟩)
      · exact .inr h
    refine for_it (g := gName 6) walk_keys (fun j σ H7 => ∃ x6, σ = [some (.ref x), some (.str kd), some (.ref tp), some (.ref dm), some (.ref tn), some (.ref pm), x6, none, none, none] ∧ H7 = upd H2 dm (.frz od (.dK m))) ⟨none, rfl, rfl⟩ (fun j σ H7 _ ⟨_, _, e⟩ => by rw [e]; exact upd_same) ?_ ?_
    · rintro j v σ H7 H8 hj ⟨x6, rfl, rfl⟩ ⟨rfl, ky, v', hkv, rfl⟩
      obtain ⟨nm, hnm, rfl⟩ : ∃ nm ∈ attrs, ky = Sum.inr nm := hm _ (List.mem_of_getElem? hkv)
      have fin : ∃ x6', [some (V.ref x), some (V.str kd), some (V.ref tp), some (V.ref dm), some (V.ref tn), some (V.ref pm), some (V.str nm), none, none, none] = [some (V.ref x), some (V.str kd), some (V.ref tp), some (V.ref dm), some (V.ref tn), some (V.ref pm), x6', none, none, none] ∧ upd H2 dm (.frz od (.dK m)) = upd H2 dm (.frz od (.dK m)) := ⟨_, rfl, rfl⟩
      refine ⟨_, rfl, _, rfl, pm, _, rfl, .inr hpm', rfl, strs_flat _ fun v hv => ?_, _, rfl, ?_⟩
      · obtain ⟨y, _, rfl⟩ := List.mem_map.mp (List.mem_of_mem_drop hv)
        exact ⟨y, rfl⟩
      cases inV (kV (Sum.inr nm)) (((namesOf rs).map V.str).drop parts.length) with
      | true =>
        refine ite2 (fun c => by cases c) (fun _ => ?_)
        refine ite2 (fun c => by cases c) (fun _ => ?_)
        exact fin
      | false =>
        refine iteT ?_
        refine ⟨_, rfl, aA, _, rfl, .inr (T.oA _), rfl, strs_flat _ fun v hv => ?_, _, rfl, ?_⟩
        · obtain ⟨y, _, rfl⟩ := List.mem_map.mp hv
          exact ⟨y, rfl⟩
        rw [show inV (kV (Sum.inr nm)) (attrs.map V.str) = true from inV_strs hnm]
        refine ite2 (fun c => by cases c) (fun _ => ?_)
        exact fin
    rintro σ H7 ⟨y6, rfl, rfl⟩
    refine ⟨upd_same, ?_⟩
    have s3 : Same H2 (upd (upd H2 dm (.frz od (.dK m))) dm (.dK m)) := fun b o e => by
      by_cases hb : b = dm
      · rw [hb, upd_same]
        rw [hb, I2.hdm] at e
        exact e
      · rw [upd_ne hb, upd_ne hb]; exact e
    have I3 := I2.up s3
    generalize upd (upd H2 dm (.frz od (.dK m))) dm (.dK m) = H3 at I3
    refine ⟨_, rfl, _, rfl, x, C, dx, _, rfl, I3.hx, N.cl, N.n1, by show 0 < 1000; decide, ?_⟩
    have I4 := I3.fld (fs' := nf1 kd)
    rw [show putF "kind" (V.str kd) [] = nf1 kd from rfl]
    generalize upd H3 x (.ins C dx (nf1 kd)) = H4 at I4
    refine ⟨_, rfl, dm, rfl, .inl ⟨_, Rd.of I4.hdm⟩, _, DGet.k (k := Sum.inr "lineno") I4.hdm, _, rfl, x, C, dx, _, rfl, I4.hx, N.cl, N.n2, by show 1 < 1000; decide, ?_⟩
    rw [show ((valV m (Sum.inr "lineno")).getD V.non) = atV m "lineno" from rfl, nf1_put]
    have I5 := I4.fld (fs' := nf2 kd m)
    generalize upd H4 x (.ins C dx (nf2 kd m)) = H5 at I5
    refine ⟨_, rfl, dm, rfl, .inl ⟨_, Rd.of I5.hdm⟩, _, DGet.k (k := Sum.inr "col_offset") I5.hdm, _, rfl, x, C, dx, _, rfl, I5.hx, N.cl, N.n3, by show 2 < 1000; decide, ?_⟩
    rw [show ((valV m (Sum.inr "col_offset")).getD V.non) = atV m "col_offset" from rfl, nf2_put]
    have I6 := I5.fld (fs' := nf3 kd m)
    generalize upd H5 x (.ins C dx (nf3 kd m)) = H6 at I6
    refine ⟨_, rfl, dm, rfl, .inl ⟨_, Rd.of I6.hdm⟩, _, DGet.k (k := Sum.inr "end_lineno") I6.hdm, _, rfl, x, C, dx, _, rfl, I6.hx, N.cl, N.n4, by show 3 < 1000; decide, ?_⟩
    rw [show ((valV m (Sum.inr "end_lineno")).getD V.non) = atV m "end_lineno" from rfl, nf3_put]
    have I7 := I6.fld (fs' := nf4 kd m)
    generalize upd H6 x (.ins C dx (nf4 kd m)) = H7 at I7
    refine ⟨_, rfl, dm, rfl, .inl ⟨_, Rd.of I7.hdm⟩, _, DGet.k (k := Sum.inr "end_col_offset") I7.hdm, _, rfl, x, C, dx, _, rfl, I7.hx, N.cl, N.n5, by show 4 < 1000; decide, ?_⟩
    rw [show ((valV m (Sum.inr "end_col_offset")).getD V.non) = atV m "end_col_offset" from rfl, nf4_put]
    have I8 := I7.fld (fs' := nf5 kd m)
    generalize upd H7 x (.ins C dx (nf5 kd m)) = H8 at I8
    refine fun d nd => ⟨_, rfl, x, C, dx, _, rfl, (I8.up (same_new nd)).hx, N.cl, N.n6, by show 5 < 1000; decide, ?_⟩
    rw [nf5_put]
    have I9 := (I8.up (same_new (o := .dK []) nd)).fld (fs' := nodeFs kd m d)
    have xd : d ≠ x := fun z => by rw [z, I8.hx] at nd; cases nd
    have hd9 : (upd (upd H8 d (.dK [])) x (.ins C dx (nodeFs kd m d))) d = some (.dK []) := by rw [upd_ne xd]; exact upd_same
    generalize upd (upd H8 d (.dK [])) x (.ins C dx (nodeFs kd m d)) = H9 at I9 hd9
    have ndH : H d = none := by
      cases z : H d with
      | none => rfl
      | some o => rw [I8.kp d o xd z] at nd; cases nd
    have dtp : tp ≠ d := fun z => by have := I9.htp; rw [z, hd9] at this; cases this
    have dtn : tn ≠ d := fun z => by have := I9.htn; rw [z, hd9] at this; cases this
    have ddm : dm ≠ d := fun z => by have := I8.hdm; rw [z, nd] at this; cases this
    have hnd := rows_nodup hk
    have hs7 := rows_small hk
    have sL : (1000 : Nat) < sizeLine := by decide
    refine ⟨_, rfl, _, rfl, tn, tp, _, _, rfl, .inr ⟨SqT.of I9.htn, SqT.of I9.htp, ?_⟩⟩
    refine for_it (walk_zipT (xs := (namesOf rs).map V.str) (ys := parts) (n := parts.length) (by rw [List.length_map, hnl]; omega)) (fun i σ H10 => ∃ x6 x7, σ = [some (.ref x), some (.str kd), some (.ref tp), some (.ref dm), some (.ref tn), some (.ref pm), x6, x7, none, none] ∧ (∀ b o, b ≠ d → H9 b = some o → H10 b = some o) ∧ H10 d = some (.dK (fkv (namesOf rs) (parts.take i))))
      ⟨y6, none, rfl, fun b o _ e => e, ?_⟩ (fun i σ H10 _ ⟨_, _, _, k10, _⟩ => ⟨SqT.of (k10 _ _ dtn I9.htn), SqT.of (k10 _ _ dtp I9.htp)⟩) ?_ ?_
    · rw [hd9, List.take_zero]
      cases namesOf rs <;> rfl
    · rintro i v σ H10 H11 hi ⟨x6, x7, rfl, k10, h10⟩ ⟨Tp, y1, y2, rfl, nT, rfl, hy1, hy2⟩
      have hy1 : ((namesOf rs).map V.str)[i]? = some y1 := hy1
      have hy2 : parts[i]? = some y2 := hy2
      obtain ⟨nm, hnm, rfl⟩ : ∃ nm, (namesOf rs)[i]? = some nm ∧ y1 = .str nm := by
        rw [List.getElem?_map] at hy1
        cases z : (namesOf rs)[i]? with
        | none => rw [z] at hy1; cases hy1
        | some nm => rw [z] at hy1; cases hy1; exact ⟨nm, rfl, rfl⟩
      have Td : Tp ≠ d := fun z => by rw [z, h10] at nT; cases nT
      refine ⟨Tp, [.str nm, y2], rfl, SqT.of upd_same, rfl, _, _, rfl, _, _, rfl, rfl, ?_⟩
      have hx11 : (upd H10 Tp (.tup [.str nm, y2])) x = some (.ins C dx (nodeFs kd m d)) := same_new nT _ _ (k10 _ _ xd.symm I9.hx)
      have hd11 : (upd H10 Tp (.tup [.str nm, y2])) d = some (.dK (fkv (namesOf rs) (parts.take i))) := same_new nT _ _ h10
      have ltk : (parts.take i).length = i := by rw [List.length_take]; omega
      have hsz : (fkv (namesOf rs) (parts.take i)).length < sizeLine := by
        rw [fkv_len (by rw [ltk, hnl]; omega), ltk]
        omega
      refine ⟨_, rfl, _, rfl, x, C, dx, _, .ref d, rfl, hx11, N.cl, N.n6, rfl, _, rfl, d, _, rfl, DPut.k (k := Sum.inr nm) hd11 hsz, _, _, rfl, ?_, ?_⟩
      · intro b o nb e
        rw [upd_ne nb]
        exact same_new nT _ _ (k10 _ _ nb e)
      · rw [upd_same, fkv_snoc hnd (by rw [ltk]; exact hnm)]
        rw [List.take_succ, hy2]
        rfl
    · rintro σ H10 ⟨x6, x7, rfl, k10, h10⟩
      rw [List.take_length] at h10
      obtain ⟨a, ha, as, hs, hla, hp⟩ := fldIs_at T.oF hk
      refine ⟨_, rfl, aF, kd, .ref a, rfl, rfl, T.kd ha, _, rfl, tp, _, rfl, .inr (SqT.of (k10 _ _ dtp I9.htp)), _, rfl, ?_⟩
      dsimp only [tNoPart]
      refine sl_from (K := K) (hs _) (by rw [List.length_map, hla]; exact hl) fun pr H11 s11 hpr => ?_
      refine ⟨pr, rfl, ⟨_, hpr⟩, ?_⟩
      have k11 : ∀ b o, b ≠ d → H9 b = some o → H11 b = some o := fun b o nb e => s11 _ _ (k10 b o nb e)
      have hx11 : H11 x = some (.ins C dx (nodeFs kd m d)) := k11 _ _ xd.symm I9.hx
      have hdm11 : H11 dm = some (.dK m) := k11 _ _ ddm I9.hdm
      have hd11 := s11 _ _ h10
      have prd : ∀ {H' : Hp}, (∀ b o, b ≠ d → H11 b = some o → H' b = some o) → SqT K H' pr ((as.map V.ref).drop parts.length) := fun {H'} kk => by
        rcases hpr with (hpr | ⟨o, hpr⟩) | hpr
        · exact .inl (.inl (kk _ _ (fun z => by rw [z, hd11] at hpr; cases hpr) hpr))
        · exact .inl (.inr ⟨o, kk _ _ (fun z => by rw [z, hd11] at hpr; cases hpr) hpr⟩)
        · exact .inr hpr
      refine for_tup (D := { nx := fun _ H' => Q .non H', rt := Q }) (K := K) (a := pr) (xs := (as.map V.ref).drop parts.length) (fun i σ H12 => ∃ x6 x7 x8 x9 ds, σ = [some (.ref x), some (.str kd), some (.ref tp), some (.ref dm), some (.ref tn), some (.ref pm), x6, x7, x8, x9] ∧ (∀ b o, b ≠ d → H11 b = some o → H12 b = some o) ∧ ds.length = i ∧ H12 d = some (.dK (fkv (namesOf rs) (parts ++ ds))) ∧
          (∀ (j : Nat) v r, ds[j]? = some v → rs[parts.length + j]? = some r → DefV C H11 H12 r.1 r.2.2 v) ∧ Apart ds) ⟨x6, x7, none, none, [], rfl, fun b o _ e => e, rfl, by rw [List.append_nil]; exact hd11, fun j v r g => by simp at g, fun i j a b _ g => by simp at g⟩ (fun i σ H12 _ ⟨_, _, _, _, _, _, k12, _⟩ => prd k12) ?_ ?_
      · rintro i v σ H12 hv ⟨y6, y7, y8, y9, ds, rfl, k12, rfl, h12, df12, ap12⟩
        rw [List.getElem?_drop, List.getElem?_map] at hv
        obtain ⟨b, hb, rfl⟩ : ∃ b, as[parts.length + ds.length]? = some b ∧ v = .ref b := by
          cases z : as[parts.length + ds.length]? with
          | none => rw [z] at hv; cases hv
          | some b => rw [z] at hv; cases hv; exact ⟨b, rfl, rfl⟩
        have hi : parts.length + ds.length < rs.length := by
          rcases Nat.lt_or_ge (parts.length + ds.length) as.length with z | z
          · omega
          · rw [List.getElem?_eq_none z] at hb; cases hb
        obtain ⟨r, hr'⟩ : ∃ r, rs[parts.length + ds.length]? = some r := ⟨_, List.getElem?_eq_getElem hi⟩
        have n1 : n = 1 := by
          rcases hn with z | z
          · exact z
          · rw [z] at hi; exact absurd hi (Nat.not_lt_zero _)
        have hx12 := k12 _ _ xd.symm hx11
        have hdm12 := k12 _ _ ddm hdm11
        have hnm : (namesOf rs)[(parts ++ ds).length]? = some r.1 := by
          unfold namesOf
          rw [List.getElem?_map, List.length_append, hr']
          rfl
        have hll : (parts ++ ds).length < (namesOf rs).length := by rw [List.length_append, hnl]; exact hi
        refine ⟨b, [.str r.1, .str r.2.1, .str r.2.2], rfl, hp _ b r hb hr' H12, rfl, _, _, rfl, _, _, rfl, _, _, rfl, rfl, ?_⟩
        refine ⟨_, rfl, _, rfl, dm, _, rfl, DGet.k (k := Sum.inr r.1) hdm12, _, rfl, ?_⟩
        rw [not_at hm (row_at hk (List.mem_of_getElem? hr'))]
        refine iteF ?_
        refine ⟨_, rfl, _, rfl, r.1, r.2.2, rfl, n1, fun H13 v s13 dv => ?_⟩
        have h13 := s13 _ _ h12
        have hsz : (fkv (namesOf rs) (parts ++ ds)).length < sizeLine := by
          rw [fkv_len (Nat.le_of_lt hll)]
          omega
        refine ⟨_, rfl, x, C, dx, _, .ref d, rfl, s13 _ _ hx12, N.cl, N.n6, rfl, _, rfl, d, _, rfl, DPut.k (k := Sum.inr r.1) h13 hsz, _, _, _, _, ds ++ [v], rfl, ?_, ?_, ?_, ?_, ?_⟩
        · intro c o nc e
          rw [upd_ne nc]
          exact s13 _ _ (k12 c o nc e)
        · rw [List.length_append]; rfl
        · rw [upd_same, fkv_snoc hnd hnm, List.append_assoc]
        · intro j u r2 g1 g2
          have key : ∀ {c : Addr} {o : HO}, H11 c = none → ∀ {H' : Hp}, H' c = some o → (upd H' d (.dK (putK (fkv (namesOf rs) (parts ++ ds)) (.inr r.1) v))) c = some o := fun {c o} n0 {H'} e => by
            rw [upd_ne (fun z => by rw [z, hd11] at n0; cases n0)]; exact e
          by_cases hj : j < ds.length
          · rw [List.getElem?_append_left hj] at g1
            exact (df12 j u r2 g1 g2).mono (fun _ z => z) fun c o n0 e => key n0 (s13 _ _ e)
          · have lj : j < (ds ++ [v]).length := by
              rcases Nat.lt_or_ge j (ds ++ [v]).length with z | z
              · exact z
              · rw [List.getElem?_eq_none z] at g1; cases g1
            rw [List.length_append, List.length_singleton] at lj
            have ej : j = ds.length := by omega
            subst ej
            rw [List.getElem?_append_right (Nat.le_refl _), Nat.sub_self] at g1
            cases g1
            rw [hr'] at g2
            cases g2
            refine dv.mono (fun c n0 => ?_) fun c o n0 e => ?_
            · cases z : H11 c with
              | none => rfl
              | some o =>
                by_cases hc : c = d
                · rw [hc, h12] at n0; cases n0
                · rw [k12 c o hc z] at n0; cases n0
            · rw [upd_ne (fun z => by rw [z, h12] at n0; cases n0)]; exact e
        · refine ap12.snoc fun j a b e1 e2 z => ?_
          subst e2
          have hj : j < ds.length := by
            rcases Nat.lt_or_ge j ds.length with z | z
            · exact z
            · rw [List.getElem?_eq_none z] at e1; cases e1
          have hj2 : parts.length + j < rs.length := by omega
          have q1 := (df12 j _ _ e1 (List.getElem?_eq_getElem hj2)).nw.2
          rw [z] at q1
          exact q1 dv.nw.1
      · rintro σ H12 ⟨y6, y7, y8, y9, ds, rfl, k12, hdl, h12, df12, ap12⟩
        rw [List.length_drop, List.length_map, hla] at hdl
        have kX : ∀ b o, b ≠ x → H b = some o → H12 b = some o := fun b o nb e => by
          have hb : b ≠ d := fun z => by rw [z, ndH] at e; cases e
          exact k12 b o hb (k11 b o hb (I9.kp b o nb e))
        refine q H12 d ds kX ndH (k12 _ _ xd.symm hx11) h12 (by rw [List.length_append, hdl]; omega) (fun j v r g1 g2 => (df12 j v r g1 g2).mono (fun c n0 => ?_) fun c o n0 e => e) ap12
        cases z : H c with
        | none => rfl
        | some o =>
          by_cases hc : c = x
          · rw [hc, hx11] at n0; cases n0
          · have hb : c ≠ d := fun z' => by rw [z', ndH] at z; cases z
            rw [k11 c o hb (I9.kp c o hc z)] at n0; cases n0
  obtain ⟨t, h1, h2⟩ := main
  exact ⟨t, h1.nox, h2⟩

theorem ok_ini {f fO fD : Addr} {fd dO dD : FuncData} (F : Fun K "__init__" "Node.__init__" sNI f fd) (T : Tabs K w mg aF aA eF nF) (Z : Blt mg) (N : NodeF K C)
    (O : FnOk P w K mg base CX0 1 fO dO ["kind"] spFO) (bO : Binds K dO ["kind"] []) (kO : PySem.W.keepIn K (.ref fO) = true) (mO : mg "fields_of" = some (.ref fO))
    (bD : Binds K dD ["name", "mark"] []) (kD : PySem.W.keepIn K (.ref fD) = true) (mD : mg "_default" = some (.ref fD)) {n k : Nat} (hk1 : 1 ≤ k) (D : FnOk P w K mg base CX0 k fD dD ["name", "mark"] (spDef n C)) :
    FnR P w K mg base CX0 (k + 1) f (spIni n C) := by
  obtain ⟨oc, od, kV, doc, pm, an, cdv, ct, osl, rfl, lk, hcd⟩ := F.ex
  refine fn_starkw (ps := ["self", "kind"]) (pv := "parts") (pd := "more") lk hcd scNI (cxUp_none) (fun us rest hl => ?_) (fun A outer s H vs Q E hr h => ini_core T Z N O bO kO mO bD kD mD hk1 D A outer s H vs Q E hr h)
  match us, hl with
  | [a, b], _ =>
    cases rest with
    | nil => rfl
    | cons r rs => rfl
def kw4 : List Str := ["end_lineno", "lineno", "col_offset", "end_col_offset"]
theorem ok_iniK {f fO fD : Addr} {fd dO dD : FuncData} (F : Fun K "__init__" "Node.__init__" sNI f fd) (T : Tabs K w mg aF aA eF nF) (Z : Blt mg) (N : NodeF K C)
    (O : FnOk P w K mg base CX0 1 fO dO ["kind"] spFO) (bO : Binds K dO ["kind"] []) (kO : PySem.W.keepIn K (.ref fO) = true) (mO : mg "fields_of" = some (.ref fO))
    (bD : Binds K dD ["name", "mark"] []) (kD : PySem.W.keepIn K (.ref fD) = true) (mD : mg "_default" = some (.ref fD)) {n k : Nat} (hk1 : 1 ≤ k) (D : FnOk P w K mg base CX0 k fD dD ["name", "mark"] (spDef n C)) :
    FnRK P w K mg base CX0 (k + 1) f kw4 (spIniK n C kw4) := by
  obtain ⟨oc, od, kV, doc, pm, an, cdv, ct, osl, rfl, lk, hcd⟩ := F.ex
  refine fn_starkwK (ps := ["self", "kind"]) (pv := "parts") (pd := "more") lk hcd scNI (cxUp_none) (by decide +kernel) (by decide) (fun us rest ws hl hw => ?_) (fun A outer s H vs Q E hr h => ini_core T Z N O bO kO mO bD kD mD hk1 D A outer s H vs Q E hr h)
  match us, hl, ws, hw with
  | [a, b], _, [w1, w2, w3, w4], _ =>
    cases rest with
    | nil => rfl
    | cons r rs => rfl
theorem ok_iniL {f fO fD : Addr} {fd dO dD : FuncData} (F : Fun K "__init__" "Node.__init__" sNI f fd) (T : Tabs K w mg aF aA eF nF) (Z : Blt mg) (N : NodeF K C)
    (O : FnOk P w K mg base CX0 1 fO dO ["kind"] spFO) (bO : Binds K dO ["kind"] []) (kO : PySem.W.keepIn K (.ref fO) = true) (mO : mg "fields_of" = some (.ref fO))
    (bD : Binds K dD ["name", "mark"] []) (kD : PySem.W.keepIn K (.ref fD) = true) (mD : mg "_default" = some (.ref fD)) {n k : Nat} (hk1 : 1 ≤ k) (D : FnOk P w K mg base CX0 k fD dD ["name", "mark"] (spDef n C)) :
    FnRK P w K mg base CX0 (k + 1) f ["lineno"] (spIniK n C ["lineno"]) := by
  obtain ⟨oc, od, kV, doc, pm, an, cdv, ct, osl, rfl, lk, hcd⟩ := F.ex
  refine fn_starkwK (ps := ["self", "kind"]) (pv := "parts") (pd := "more") lk hcd scNI (cxUp_none) (by decide +kernel) (by decide) (fun us rest ws hl hw => ?_) (fun A outer s H vs Q E hr h => ini_core T Z N O bO kO mO bD kD mD hk1 D A outer s H vs Q E hr h)
  match us, hl, ws, hw with
  | [a, b], _, [w1], _ =>
    cases rest with
    | nil => rfl
    | cons r rs => rfl
end
end M4

namespace M4
open PySem PySem.Spec PyProof.Rows L2 StX
/-! ### several except clauses, each with a name -/
def wAll (K : PySem.W.Frag) (Wout : WX) (i : Nat) (D : Ends) : List (Value × (Addr → Value → Option Addr → TS)) → WX
  | [] => Wout
  | (c, ts) :: r => fun cls d σ H => ∃ b, PySem.W.exmOne K cls c = some b ∧ (b = true → ∀ a, H a = none → ts a cls d { nx := fun σ' H' => D.nx (σ'.set i none) H', rt := D.rt, bk := fun σ' H' => D.bk (σ'.set i none) H', ct := fun σ' H' => D.ct (σ'.set i none) H' } (σ.set i (some (.ref a))) H) ∧
      (b = false → wAll K Wout i D r cls d σ H)
inductive HdsAs (X : Cx) (n : Str) : List ExceptHandler → List (Value × (Addr → Value → Option Addr → TS)) → Prop
  | nil : HdsAs X n [] []
  | cons {x : Str} {c : Value} {ts : Addr → Value → Option Addr → TS} {b₀ : Stmt} {suite : List Stmt} {np pos' : Pos} {hds : List ExceptHandler} {l : List (Value × (Addr → Value → Option Addr → TS))} (hc : Names X x c)
      (hsu : ∀ (a : Addr) (oe : Obj) (cls : Value) (d : Option Addr) (pn : List (Addr × Obj)), Zc cls d oe → (∃ vs, oe.data = .fields vs) → PSs (X.suite a ((a, oe) :: pn)) (b₀ :: suite) (ts a cls d)) (r : HdsAs X n hds l) :
      HdsAs X n (.ExceptHandler (some (.Name x np)) (some n) (b₀ :: suite) pos' :: hds) ((c, ts) :: l)
section
variable {X : Cx} {n : Str} {i : Nat} {body : List Stmt} {h₀ : ExceptHandler} {hds : List ExceptHandler} {l : List (Value × (Addr → Value → Option Addr → TS))} {pos : Pos} {tb : WX → TS} {Wout : WX}
theorem ps_try_all (hs : X.stack = X.env :: X.outer) (hf : X.env.frame = some X.env.locals) (hN : X.N.Nodup) (hi : X.N[i]? = some n) (hln : X.env.kindOf n = some .local) (tk : Takes X Wout)
    (hb : ∀ (W : WX) (pn : List (Addr × Obj)) (xe : Value → Shared → Prop), Takes (X.tr pn xe) W → PassesOwn (model X.prog X.w) X.A X.env xe → PSs (X.tr pn xe) body (tb W))
    (hh : HdsAs X n (h₀ :: hds) l) : PS X (.Try body (h₀ :: hds) [] [] pos) (fun D σ H => tb (wAll X.K Wout i D l) D σ H) := by
  refine ⟨fun pins s σ H D I h => ?_⟩
  have ok := I.ok
  have hfr : X.A.frames = some (X.env :: X.outer) := by rw [ok.frames, hs]
  have hloc : Loc X.env.scope n := .inl hln
  refine wpAny_Try_except ?_
  refine wpAny_mono ((hb (wAll X.K Wout i D l) (X.pn ++ pins) (fun e s₁ => wpAny (model X.prog X.w) X.A (noteFrame e X.env) (fun _ s₂ => wpAny (model X.prog X.w) X.A (setFlight e none) (fun _ s₃ =>
    wpAny (model X.prog X.w) X.A (handleBy e X.env (h₀ :: hds)) (SP X pins D) X.xe s₃) X.xe s₂) X.xe s₁) (fun u s' xx => ?_) PassesOwn.looking).run [] s σ H D (I.toTry _) h) (fun f s1 hsp => ?_) (fun e s1 he => he)
  · -- the catch
    obtain ⟨a, B, sI, pins', σ', H', cls, d, rfl, J', nb, up, sky, na, os, ag, w⟩ := xx
    have J : Inv X pins σ' H' sI := J'.ofTry ok
    have sky' : Sky B (X.env :: X.outer) a (Zc cls d) X.env.locals s'.heap := by rw [← hs]; exact sky
    show wpAny (model X.prog X.w) X.A (noteFrame (.ref a) X.env) _ _ _
    refine Sky.land Zc.steady hfr hf sky' fun h3 fl3 up3 => ?_
    have J3 : Inv X pins σ' H' { s' with heap := h3 } := J.landed nb fl3.1 (up.trans up3) os ag
    obtain ⟨oe3, vs3, he3, hz3, hd3⟩ := fl3.there
    have notFr : ∀ {h : Heap} {o : Obj} {vs : Array Value}, h.FunFrames B (X.env :: X.outer) → h.get? a = some o → o.data = .fields vs → a ∉ frs (X.env :: X.outer) := fun {h o vs} ff e dd hm => by
      obtain ⟨_, o', e', hnf⟩ := ff.mem hm
      rw [e] at e'; cases e'
      exact hnf _ dd
    have nfr := notFr fl3.2.2.1 he3 hd3
    have nL : a ≠ X.env.locals := fun z => nfr (List.mem_filterMap.mpr ⟨X.env, List.mem_cons_self, by rw [hf, z]⟩)
    have nF : a ∉ X.fs := fun hm => by
      obtain ⟨e, he, q⟩ := List.mem_filterMap.mp hm
      exact nfr (List.mem_filterMap.mpr ⟨e, List.mem_cons_of_mem _ he, q⟩)
    have S3 := J3.suite he3 hd3 na nL nF
    have go : ∀ {hds' : List ExceptHandler} {l' : List (Value × (Addr → Value → Option Addr → TS))}, HdsAs X n hds' l' → wAll X.K Wout i D l' cls d σ' H' →
        wpAny (model X.prog X.w) X.A (handleBy (.ref a) X.env hds') (SP X pins D) X.xe { s' with heap := h3 } := by
      intro hds' l' hk
      induction hk with
      | nil =>
        intro w
        refine wpAny_handleBy_nil ?_
        obtain ⟨k1, k2, k3, oe, vs, T, oT, ts', he, hz, hd, h1, hr⟩ := id fl3
        unfold PySem.passOn
        refine wpAny_bind (wpAny_field he hd h1 ?_)
        rw [if_neg (show ¬ ((Value.ref T == Value.none) = true) from by simp)]
        have fin : wpAny (model X.prog X.w) X.A (setFlight (.ref a) X.env.frame) (fun _ s4 => wpAny (model X.prog X.w) X.A (throw (.ref a) : Sem Flow) (SP X pins D) X.xe s4) X.xe { s' with heap := h3 } := by
          rw [hf]
          refine HandSPX.setFlight_upZ fl3 fun h4 hh4 up4 => wpAny_throw (tk _ _ ?_)
          exact ⟨a, B, sI, pins, σ', H', cls, d, rfl, J, nb, (up.trans up3).trans up4, .inr (.inr (by rw [hs]; exact hh4)), na, os, ag, w⟩
        first
          | exact wpAny_bind (wpAny_pure (wpAny_bind fin))
          | exact wpAny_bind fin
      | @cons x c ts b₀ suite np pos' hds2 l2 hc hsu r ih =>
        intro w
        obtain ⟨b, hb1, hyes, hno⟩ := w
        refine wpAny_handleBy_cons (codeAny_handlers_test ?_) (by intro q; cases q)
        have LT : PySem.W.Looks (model X.prog X.w) h3 (typeOf (.ref a)) cls := fun A Q E s k q => wpAny_typeOf_ref (k _ _ he3) (by rw [hz3.1]; exact q)
        have LM := PySem.W.exm_one (M := model X.prog X.w) (J3.kIn) LT hb1
        have test : ∀ {Q : Value → Shared → Prop} {E : Value → Shared → Prop}, Q c { s' with heap := h3 } → wpAny (model X.prog X.w) (X.A.mark (some (.ref a))) (eval (.Name x np) X.env) Q E { s' with heap := h3 } := fun {Q E} q => by
          obtain ⟨hg, hdbg, hm | ⟨hm, hv, hnn⟩⟩ := hc
          · exact ld_glob (X := X.suite a ((a, oe3) :: (X.pn ++ pins))) S3 hg hm q hdbg
          · exact ld_blt (X := X.suite a ((a, oe3) :: (X.pn ++ pins))) S3 hg hm hv q hnn hdbg
        refine test (LM.here ?_)
        cases b with
        | true =>
          refine codeAny_handlers_suite_as ?_
          refine HandSPX.lands_againZ fl3 fun h4 fl4 up4 => ?_
          have J4 : Inv X pins σ' H' { s' with heap := h4 } := J.landed nb fl4.1 ((up.trans up3).trans up4) os ag
          obtain ⟨oe4, vs4, he4, hz4, hd4⟩ := fl4.there
          have S4 := J4.suite he4 hd4 na nL nF
          refine store_ok (X := X.suite a ((a, oe4) :: (X.pn ++ pins))) (v := .ref a) S4 hN hi hloc rfl (fun s5 S5 => ?_) (.inr hln)
          refine wpAny_mono ((hsu a oe4 cls d (X.pn ++ pins) hz4 ⟨_, hd4⟩).run [] s5 _ H' _ S5 (hyes rfl a na)) (fun f s6 hsp => ?_) (fun _ _ z => False.elim z)
          have end_ : ∀ {σ6 : L2.St} {H6 : Hp} {Q : Shared → Prop}, Inv (X.suite a ((a, oe4) :: (X.pn ++ pins))) [] σ6 H6 s6 → (∀ s7, Inv X pins (σ6.set i none) H6 s7 → Q s7) →
              wpAny (model X.prog X.w) X.A (do bindName X.env n .none; unbindBehindTheSuite X.env n pos') (fun _ s7 => Q s7) X.xe s6 := fun {σ6 H6 Q} S6 hq => gone_ok (S6.unsuite ok) hN hi hln hq
          cases f with
          | next =>
            obtain ⟨σ6, H6, S6, q6⟩ := hsp
            exact end_ S6 fun s7 J7 => ⟨_, _, J7, q6⟩
          | brk =>
            obtain ⟨σ6, H6, S6, q6⟩ := hsp
            exact end_ S6 fun s7 J7 => ⟨_, _, J7, q6⟩
          | cont =>
            obtain ⟨σ6, H6, S6, q6⟩ := hsp
            exact end_ S6 fun s7 J7 => ⟨_, _, J7, q6⟩
          | ret u =>
            obtain ⟨v6, σ6, H6, S6, r6, q6⟩ := hsp
            exact end_ S6 fun s7 J7 => ⟨_, _, _, J7, r6, q6⟩
        | false =>
          show wpAny _ X.A (handleBy (.ref a) X.env hds2) _ _ _
          exact ih (hno rfl)
    exact go hh w
  · cases f with
    | next =>
      obtain ⟨σ', H', J', q⟩ := hsp
      exact wpAny_execs_nil ⟨σ', H', J'.ofTry ok, q⟩
    | brk =>
      obtain ⟨σ', H', J', q⟩ := hsp
      exact ⟨σ', H', J'.ofTry ok, q⟩
    | cont =>
      obtain ⟨σ', H', J', q⟩ := hsp
      exact ⟨σ', H', J'.ofTry ok, q⟩
    | ret u =>
      obtain ⟨v, σ', H', J', r, q⟩ := hsp
      exact ⟨v, σ', H', J'.ofTry ok, r, q⟩
end
end M4

namespace M4
open PySem PySem.Spec PyProof.Rows L2
/-! ### o[name] and o[name] = v by the class's own defs -/
structure NodeC (K : PySem.W.Frag) (C fG fS : Addr) : Prop where
  cl : Cls K C
  sq : PySem.W.noSeq K C = true
  gt : PySem.W.findIn K (.ref C) "__getitem__" = some (some (.ref fG))
  gfn : PySem.W.fnIn K fG = true
  gf : PySem.W.isFn K (.ref fG) = true
  st : PySem.W.findIn K (.ref C) "__setitem__" = some (some (.ref fS))
  sf : PySem.W.isFn K (.ref fS) = true
def spGet (C : Addr) : Sp := fun vs H Q _ => ∃ (p dx d : Addr) (nm : Str) (fs : List (Str × V)) (kvs : List (Key × V)) (v : V), vs = [.ref p, .str nm] ∧ H p = some (.ins C dx fs) ∧ fs.lookup ("_fields" : Str) = some (V.ref d) ∧ H d = some (.dK kvs) ∧ valV kvs (.inr nm) = some v ∧ Q v H
def spSet (C : Addr) : Sp := fun vs H Q _ => ∃ (p dx d : Addr) (nm : Str) (fs : List (Str × V)) (kvs : List (Key × V)) (v w : V), vs = [.ref p, .str nm, w] ∧ H p = some (.ins C dx fs) ∧ fs.lookup ("_fields" : Str) = some (V.ref d) ∧ H d = some (.dK kvs) ∧ valV kvs (.inr nm) = some v ∧ kvs.length < sizeLine ∧ Q .non (upd H d (.dK (putK kvs (.inr nm) w)))
/-- a def called within an around of the same frames -/
theorem callAt {X : Cx} {A : Around} {m : Nat} {f : Addr} {fd : FuncData} {ps : List Str} {sp : Sp} {E : XK} {pins : List (Addr × Obj)} {σ : L2.St} {H : Hp} {s : Shared} {us : List Value} {vs : List V} {Q : VK}
    (F : FnOk X.prog X.w X.K X.mg X.base CX0 m f fd ps sp) (hb : Binds X.K fd ps []) (sb : Sub X m A) (I : Inv X pins σ H s) (r : Vals vs us) (h : sp vs H Q E) : wpAny (model X.prog X.w) A (call (.ref f) us) (EP X pins σ Q) X.xe s := by
  have e0 : Env0 X.prog X.w X.K X.mg X.base A X.stack s H := by
    have z := I.env0
    exact { frames := by rw [sb.fr]; exact z.frames, mod := z.mod, bs := z.bs, bsz := z.bsz, funs := z.funs, frf := z.frf, hok := z.hok, bare := z.bare }
  have hl : us.length = ps.length := by rw [← r.length]; exact F.len _ _ _ _ h
  have hb2 := hb s us I.kIn (by rw [List.append_nil]; exact hl)
  rw [List.append_nil] at hb2
  refine wpAny_call (codeAny_mono (F.run A X.stack s H _ _ _ _ E sb.room e0 hb2 r h) fun r s' hq => ?_)
  cases r with
  | error er => exact hq.elim
  | ok fl =>
    cases fl with
    | next => exact False.elim hq
    | brk => exact False.elim hq
    | cont => exact False.elim hq
    | ret w' => exact I.after hq
theorem sub_own {prog : Program} {w : World} {A : Around} {E : Value → Shared → Prop} {s : Shared} {K : PySem.W.Frag} {x C f : Addr} {ox : Obj} {od : Option Obj} {value slice : Expr} {i : Value} {Q : Value → Shared → Prop}
    (kin : K.In s.heap) (J : PySem.W.InstAt s.heap x ox C od) (g1 : PySem.W.findIn K (.ref C) "__getitem__" = some (some (.ref f))) (g2 : PySem.W.fnIn K f = true) (g3 : PySem.W.isFn K (.ref f) = true)
    (go : wpAny (model prog w) A.in1 (call (.ref f) [.ref x, i]) Q E s) (sl : subscripted slice true (.ref x) i = runValue (.builtin "lifetime.subscript" ⟨[.ref x, i], []⟩)) : wpAny (model prog w) A (subscriptTail value slice (.ref x) i) Q E s := by
  obtain ⟨o, fd, ho, hd⟩ : ∃ (o : Obj) (fd : FuncData), K.lookup f = some o ∧ o.data = .func fd := by
    unfold PySem.W.fnIn at g2
    split at g2
    · rename_i e
      exact ⟨_, _, e, rfl⟩
    · cases g2
  unfold subscriptTail getitemInPython
  refine wpAny_bind (wpAny_bind (wpAny_bind (J.type.here ((PySem.W.looks_findIn kin g1).here ?_))))
  refine wpAny_bind (wpAny_load (kin _ _ ho) (wpAny_pure ?_))
  rw [hd]
  show wpAny (model prog w) A (subscripted slice true (.ref x) i >>= fun v => letTemporaryGo value (.ref x) v >>= fun _ => pure v) Q E s
  rw [sl]
  refine wpAny_bind (wpAny_runValue (codeAny_builtin PySem.W.entry_sub ?_))
  unfold Builtin.«lifetime.subscript»
  exact wpAny_bind (PySem.W.special_fn kin J g1 (beq_iff_eq.mp g3) (wpAny_mono go (fun v s' z => wpAny_pure (wpAny_bind (wpAny_letTemporaryGo (wpAny_pure z)))) fun _ _ z => z))
def tIxN (C : Addr) (ta tb : TE) : TE := fun σ H Q => ta σ H fun x H1 => tb σ H1 fun y H2 => ∃ (p dx d : Addr) (nm : Str) (fs : List (Str × V)) (kvs : List (Key × V)) (v : V), x = .ref p ∧ y = .str nm ∧ H2 p = some (.ins C dx fs) ∧ fs.lookup ("_fields" : Str) = some (V.ref d) ∧ H2 d = some (.dK kvs) ∧ valV kvs (.inr nm) = some v ∧ Q v H2
section
variable {X : Cx} {C fG fS : Addr} {gd sd : FuncData} {m : Nat} {a b : Expr} {ta tb : TE} {pos : Pos}
theorem pe_ixN (N : NodeC X.K C fG fS) (F : FnOk X.prog X.w X.K X.mg X.base CX0 m fG gd ["self", "at"] (spGet C)) (hb : Binds X.K gd ["self", "at"] []) (hr : Room (m + 1) X.A) (h1 : PE X a ta) (h2 : PE X b tb)
    (hs : ∀ o i, subscripted b true o i = runValue (.builtin "lifetime.subscript" ⟨[o, i], []⟩) := by intro _ _; rfl) : PE X (.Subscript a b pos) (tIxN C ta tb) := by
  refine ⟨fun pins s σ H Q I h => ?_⟩
  refine Subscript_ (binT h1 h2 I h fun v u s2 x y H2 I2 rx ry q => ?_)
  obtain ⟨p, dx, d, nm, fs, kvs, z, rfl, rfl, hp, hf, hd, hv, q⟩ := q
  obtain rfl : v = Value.ref p := rx
  obtain ⟨mA, O, _⟩ := ins_get I2.hok hp
  obtain ⟨od, J, _⟩ := O.look
  have sb : Sub X (m + 1) X.A := ⟨hr, rfl⟩
  exact sub_own I2.kIn J N.gt N.gfn N.gf (callAt (E := fun _ _ _ => False) F hb sb.in1 I2 (Paired.cons (show RelV (V.ref p) (Value.ref p) from rfl) (.cons ry .nil)) ⟨p, dx, d, nm, fs, kvs, z, rfl, hp, hf, hd, hv, q⟩) (hs _ _)
def rSetN (C : Addr) : V → V → V → Hp → (Hp → Prop) → Prop := fun o i w H Q => ∃ (p dx d : Addr) (nm : Str) (fs : List (Str × V)) (kvs : List (Key × V)) (v : V), o = .ref p ∧ i = .str nm ∧ H p = some (.ins C dx fs) ∧ fs.lookup ("_fields" : Str) = some (V.ref d) ∧ H d = some (.dK kvs) ∧ valV kvs (.inr nm) = some v ∧ kvs.length < sizeLine ∧ Q (upd H d (.dK (putK kvs (.inr nm) w)))
theorem set_node (N : NodeC X.K C fG fS) (F : FnOk X.prog X.w X.K X.mg X.base CX0 m fS sd ["self", "at", "worth"] (spSet C)) (hb : Binds X.K sd ["self", "at", "worth"] []) (hr : Room m X.A) : PSet X (rSetN C) := by
  intro pins s σ H o i w ov iv u Q I ro ri rw' h
  obtain ⟨p, dx, d, nm, fs, kvs, z, rfl, rfl, hp, hf, hd, hv, hz, q⟩ := h
  obtain rfl : ov = Value.ref p := ro
  obtain ⟨mA, O, _⟩ := ins_get I.hok hp
  obtain ⟨od, J, _⟩ := O.look
  have X0 := I.kIn
  unfold setItem sequenceKey
  refine wpAny_holding (wpAny_bind (wpAny_bind (J.type.here ?_)))
  refine wpAny_bind ((PySem.W.anyM_none X0 N.sq).here ?_)
  rw [if_pos (show (!false) = true from rfl)]
  have go := callAt (E := fun _ _ _ => False) (Q := fun _ H' => Q H') F hb ⟨hr, rfl⟩ I (Paired.cons (show RelV (V.ref p) (Value.ref p) from rfl) (.cons ri (.cons rw' .nil))) ⟨p, dx, d, nm, fs, kvs, z, w, rfl, hp, hf, hd, hv, hz, q⟩
  refine wpAny_pure (wpAny_bind (PySem.W.special_fn X0 J N.st (beq_iff_eq.mp N.sf) (wpAny_mono go (fun v s' hq => ?_) fun _ _ z => z)))
  obtain ⟨v', H', I', _, q'⟩ := hq
  exact wpAny_pure ⟨H', I', q'⟩
end
end M4

namespace M4
open PySem PySem.Spec PyProof.Rows L2
abbrev sNG : Stmt := inClass (topS 14) 1
abbrev sNS : Stmt := inClass (topS 14) 2
theorem scNG : FnScope ["self", "at"] ["self", "at"] (defScope sNG) := ⟨rfl, rfl, rfl, by decide +kernel, rfl, by decide +kernel, by decide +kernel⟩
theorem scNS : FnScope ["self", "at", "worth"] ["self", "at", "worth"] (defScope sNS) := ⟨rfl, rfl, rfl, by decide +kernel, rfl, by decide +kernel, by decide +kernel⟩
section
variable {P : Program} {w : World} {K : PySem.W.Frag} {mg : Str → Option Value} {base : Heap}
theorem ok_get {f : Addr} {fd : FuncData} {C : Addr} (F : Fun K "__getitem__" "Node.__getitem__" sNG f fd) (c : Cls K C) (na : NoAttr K C "_fields") (zI : mg "isinstance" = none) (zS : mg "str" = none) : FnOk P w K mg base CX0 1 f fd ["self", "at"] (spGet C) := by
  refine F.ok scNG (fun vs H Q E h => ?_) (fun cdv A outer s H vs Q E hr h => ?_)
  · obtain ⟨p, dx, d, nm, fs, kvs, v, rfl, _⟩ := h
    rfl
  obtain ⟨p, dx, d, nm, fs, kvs, v, rfl, hp, hf, hd, hv, q⟩ := h
  refine ⟨_, pss_cons (ps_if (PW.pt (pw_or (pt_not (pt_val (pe_callB call_isi (by rfl) zI (by decide +kernel) (pa_cons (pv 1) (pa_cons (pe_bltn (v := .ty "str") (by rfl) zS (by decide +kernel) rfl) pa_nil)))))
      (pw_or1 (pt_cmp (pc_dnotin (hu_of hr) (pv 1) (pe_fld (pv 0) rfl)))))) (pss_one ps_no) pss_nil)
    (pss_one (ps_ret (pe_dget (hu_of hr) (pe_fld (pv 0) rfl) (pv 1) (fun _ _ => rfl)))), ?_⟩
  refine ⟨_, rfl, .str nm, .ty "str", _, _, _, rfl, .ty _, .base (.str nm), str_in, _, rfl, iteF ?_⟩
  refine ⟨_, rfl, _, rfl, p, C, dx, fs, _, rfl, hp, c, na, hf, d, _, rfl, DGet.k (k := Sum.inr nm) hd, ?_⟩
  rw [hv]
  refine ⟨_, rfl, iteF ?_⟩
  refine ⟨_, rfl, p, C, dx, fs, _, rfl, hp, c, na, hf, _, rfl, d, v, rfl, ?_, q⟩
  rw [← hv]
  exact DGet.k (k := Sum.inr nm) hd
theorem ok_set {f : Addr} {fd : FuncData} {C : Addr} (F : Fun K "__setitem__" "Node.__setitem__" sNS f fd) (c : Cls K C) (na : NoAttr K C "_fields") (zI : mg "isinstance" = none) (zS : mg "str" = none) : FnOk P w K mg base CX0 1 f fd ["self", "at", "worth"] (spSet C) := by
  refine F.ok scNS (fun vs H Q E h => ?_) (fun cdv A outer s H vs Q E hr h => ?_)
  · obtain ⟨p, dx, d, nm, fs, kvs, v, u, rfl, _⟩ := h
    rfl
  obtain ⟨p, dx, d, nm, fs, kvs, v, u, rfl, hp, hf, hd, hv, hz, q⟩ := h
  refine ⟨_, pss_cons (ps_if (PW.pt (pw_or (pt_not (pt_val (pe_callB call_isi (by rfl) zI (by decide +kernel) (pa_cons (pv 1) (pa_cons (pe_bltn (v := .ty "str") (by rfl) zS (by decide +kernel) rfl) pa_nil)))))
      (pw_or1 (pt_cmp (pc_dnotin (hu_of hr) (pv 1) (pe_fld (pv 0) rfl)))))) (pss_one ps_no) pss_nil)
    (pss_one (ps_dput (hu_of hr) (pe_fld (pv 0) rfl) (pv 1) (pv 2) (by rfl))), ?_⟩
  refine ⟨_, rfl, .str nm, .ty "str", _, _, _, rfl, .ty _, .base (.str nm), str_in, _, rfl, iteF ?_⟩
  refine ⟨_, rfl, _, rfl, p, C, dx, fs, _, rfl, hp, c, na, hf, d, _, rfl, DGet.k (k := Sum.inr nm) hd, ?_⟩
  rw [hv]
  refine ⟨_, rfl, iteF ?_⟩
  exact ⟨_, rfl, _, rfl, p, C, dx, fs, _, rfl, hp, c, na, hf, _, rfl, d, _, rfl, DPut.k (k := Sum.inr nm) hd hz, q⟩
end
end M4

namespace M4
open PySem PySem.Spec PyProof.Rows L2 StX
/-! ### the nodes in a value, whatever else stands in it -/
structure NodeI (K : PySem.W.Frag) (C : Addr) : Prop where
  cl : Cls K C
  ha : PySem.W.findIn K (.ref C) "__class__" = some (some (.builtin "object.__class__"))
  hn : PySem.W.specialIn K (.builtin "object.__class__") "__get__" = some (some (.builtin "getset_descriptor.__get__"))
  ht : PySem.W.takesIn K (.builtin "object.__class__") = some true
  hm : PySem.W.mroIn K C (.type "object") = some true
  sf : PySem.W.kitOne K (.ref C) (.ref C) = some true
  nl : PySem.W.kitOne K (.ref C) (.type "list") = some false
def nodeO (C a : Addr) : Option HO → Option Addr
  | some (.ins D _ _) => if D = C then some a else none
  | _ => none
def nodeOf (C : Addr) (H : Hp) : V → Option Addr
  | .ref a => nodeO C a (H a)
  | _ => none
def kidsO (C : Addr) (H : Hp) (a : Addr) : Option HO → List Addr
  | some (.lst xs) => xs.filterMap (nodeOf C H)
  | o => (nodeO C a o).toList
def kidsV (C : Addr) (H : Hp) : V → List Addr
  | .ref a => kidsO C H a (H a)
  | _ => []
def isLO : Option HO → Bool
  | some (.lst _) => true
  | _ => false
def isL (H : Hp) : V → Bool
  | .ref a => isLO (H a)
  | _ => false
/-- v is tracked: what stands at it stands for ever -/
def Trk (H : Hp) (v : V) : Prop := ∀ a, v = .ref a → H a ≠ none
theorem Trk.up {H H' : Hp} {v : V} (h : Trk H v) (s : Same H H') : Trk H' v := fun a e => by
  have z := h a e
  cases q : H a with
  | none => exact absurd q z
  | some o => rw [s _ _ q]; simp
theorem Trk.at_ {H H' : Hp} {v : V} (h : Trk H v) (s : Same H H') : ∀ a, v = .ref a → H' a = H a := fun a e => by
  have z := h a e
  cases q : H a with
  | none => exact absurd q z
  | some o => exact s _ _ q
/-- an item: a node, or something that is none -/
def Itm (K : PySem.W.Frag) (C : Addr) (H : Hp) (v : V) : Prop := Trk H v ∧ ∃ t, TyX K H v t ∧ PySem.W.kitOne K t (.ref C) = some (nodeOf C H v).isSome
/-- a field's value: a list of items, or an item -/
def Vlu (K : PySem.W.Frag) (C : Addr) (H : Hp) (v : V) : Prop := (∃ a xs, v = .ref a ∧ H a = some (.lst xs) ∧ xs.length ≤ 1000 ∧ ∀ x ∈ xs, Itm K C H x) ∨ (Itm K C H v ∧ isL H v = false ∧ ∃ t, TyX K H v t ∧ PySem.W.kitOne K t (.type "list") = some false)
theorem tyX_up {K : PySem.W.Frag} {H H' : Hp} {v : V} {t : Value} (h : TyX K H v t) (k : Same H H') : TyX K H' v t := by
  cases h with
  | base b =>
    cases b with
    | non => exact .base .non
    | bl x => exact .base (.bl x)
    | int i => exact .base (.int i)
    | str x => exact .base (.str x)
    | flt x => exact .base (.flt x)
    | lst e => exact .base (.lst (k _ _ e))
    | frz e => exact .base (.frz (k _ _ e))
    | tup e => exact .base (.tup (k _ _ e))
    | dK e => exact .base (.dK (k _ _ e))
    | dT e => exact .base (.dT (k _ _ e))
    | ins e a b c d f => exact .base (.ins (k _ _ e) a b c d f)
  | byt b => exact .byt b
  | set e => exact .set (k _ _ e)
  | kList e c => exact .kList e c
  | kTuple e c => exact .kTuple e c
  | kDict e c => exact .kDict e c
  | fTuple e => exact .fTuple (k _ _ e)
  | fDict e => exact .fDict (k _ _ e)
theorem nodeOf_up {C : Addr} {H H' : Hp} {v : V} (h : Trk H v) (s : Same H H') : nodeOf C H' v = nodeOf C H v := by
  cases v with
  | ref a => show nodeO C a (H' a) = nodeO C a (H a); rw [h.at_ s a rfl]
  | _ => rfl
theorem Itm.up {K : PySem.W.Frag} {C : Addr} {H H' : Hp} {v : V} (h : Itm K C H v) (s : Same H H') : Itm K C H' v := by
  obtain ⟨h1, t, h2, h3⟩ := h
  exact ⟨h1.up s, t, tyX_up h2 s, by rw [nodeOf_up h1 s]; exact h3⟩
theorem fm_one {α β : Type} (f : α → Option β) (x : α) : [x].filterMap f = (f x).toList := by
  rw [List.filterMap_cons]
  cases f x <;> rfl
theorem filterMap_same {α β : Type} {f g : α → Option β} : ∀ {xs : List α}, (∀ x ∈ xs, f x = g x) → xs.filterMap f = xs.filterMap g
  | [], _ => rfl
  | x :: r, h => by
    have h1 := h x (List.mem_cons_self ..)
    have h2 := filterMap_same (xs := r) fun y hy => h y (List.mem_cons_of_mem _ hy)
    rw [List.filterMap_cons, List.filterMap_cons, h1, h2]
theorem kidsV_lst {C a : Addr} {H : Hp} {xs : List V} (h : H a = some (.lst xs)) : kidsV C H (.ref a) = xs.filterMap (nodeOf C H) := by
  show kidsO C H a (H a) = _
  rw [h]
  rfl
theorem kidsV_one {C : Addr} {H : Hp} {v : V} (h : isL H v = false) : kidsV C H v = (nodeOf C H v).toList := by
  cases v with
  | ref a =>
    show kidsO C H a (H a) = (nodeO C a (H a)).toList
    have h : isLO (H a) = false := h
    cases e : H a with
    | none => rfl
    | some o =>
      rw [e] at h
      cases o with
      | lst xs => cases h
      | _ => rfl
  | _ => rfl
theorem Vlu.up {K : PySem.W.Frag} {C : Addr} {H H' : Hp} {v : V} (h : Vlu K C H v) (s : Same H H') : Vlu K C H' v ∧ kidsV C H' v = kidsV C H v := by
  rcases h with ⟨a, xs, rfl, h1, h2, h3⟩ | ⟨h1, h2, t, h3, h4⟩
  · refine ⟨.inl ⟨a, xs, rfl, s _ _ h1, h2, fun x hx => (h3 x hx).up s⟩, ?_⟩
    rw [kidsV_lst h1, kidsV_lst (s _ _ h1)]
    exact filterMap_same fun x hx => nodeOf_up (h3 x hx).1 s
  · have e : isL H' v = false := by
      cases v with
      | ref a => show isLO (H' a) = false; rw [h1.1.at_ s a rfl]; exact h2
      | _ => rfl
    refine ⟨.inr ⟨h1.up s, e, t, tyX_up h3 s, h4⟩, ?_⟩
    rw [kidsV_one h2, kidsV_one e, nodeOf_up h1.1 s]
theorem nodeOf_ref {C : Addr} {H : Hp} {v : V} {b : Addr} (h : nodeOf C H v = some b) : v = .ref b := by
  cases v with
  | ref a =>
    have h : nodeO C a (H a) = some b := h
    unfold nodeO at h
    split at h
    · split at h
      · cases h; rfl
      · cases h
    · cases h
  | _ => cases h
abbrev sNO : Stmt := topS 18
theorem scNO : FnScope ["value", "items", "item"] ["value"] (defScope sNO) := ⟨rfl, rfl, rfl, by decide +kernel, rfl, by decide +kernel, by decide +kernel⟩
def spNO (K : PySem.W.Frag) (C : Addr) : Sp := fun vs H Q _ => ∃ v : V, vs = [v] ∧ Vlu K C H v ∧ ∀ (H' : Hp) (D : Addr), H D = none → Same H H' → H' D = some (.lst ((kidsV C H v).map V.ref)) → Q (.ref D) H'
theorem lst_in {K : PySem.W.Frag} : PySem.W.kitOne K (.type "list") (.type "list") = some true := kit_ty (by decide +kernel)
section
variable {P : Program} {w : World} {K : PySem.W.Frag} {mg : Str → Option Value} {base : Heap} {C : Addr}
theorem ok_no {f : Addr} {fd : FuncData} (F : Fun K "nodes_of" "nodes_of" sNO f fd) (Z : Blt mg) (mN : mg "Node" = some (.ref C)) : FnOk P w K mg base CX0 1 f fd ["value"] (spNO K C) := by
  refine F.ok scNO (fun vs H Q E h => ?_) (fun cdv A outer s H vs Q E hr h => ?_)
  · obtain ⟨v, rfl, _⟩ := h
    rfl
  obtain ⟨v, rfl, hf, q⟩ := h
  have isiK : ∀ X : Cx, X.K = K → CallR X (.builtin "isinstance") (rIsi K) := fun X e => e ▸ call_isi
  refine ⟨_, pss_cons (ps_set (i := 1) scNO.nd rfl (.inl rfl) (pe_ifExp (pt_val (pe_callB call_isi (by rfl) Z.isI (by decide +kernel) (pa_cons (pv 0) (pa_cons (pe_bltn (v := .ty "list") (by rfl) Z.ls (by decide +kernel) rfl) pa_nil)))) (pv 0) (pe_lst (pa_cons (pv 0) pa_nil))))
    (pss_one (ps_ret (pe_lc (own := [("item", 2)]) (g := gName 2) (tt := tB (tCB (rIsi K) (tCons (tVar 2) (tCons (tC (.ref C)) tNil)))) rfl scNO.nd (pi_list (pv 1))
        (blkOk_by (own := [("item", 2)]) (N := ["value", "items", "item"]) (sc := defScope sNO) (by decide +kernel)) (fun _ _ _ _ _ => pg_name (i := 2) scNO.nd rfl (.inl rfl))
        (fun _ _ _ _ _ => pts_one (pt_val (pe_callB (isiK _ rfl) (by rfl) Z.isI (by decide +kernel) (pa_cons (pv 2) (pa_cons (pe_glob (v := .ref C) rfl mN rfl) pa_nil)))))
        (fun _ _ _ _ _ => pv 2)))), ?_⟩
  have go : ∀ (H1 : Hp) (a : Addr) (xs : List V), Same H H1 → H1 a = some (.lst xs) → xs.length ≤ 1000 → (∀ x ∈ xs, Itm K C H x) → xs.filterMap (nodeOf C H) = kidsV C H v →
      tRet (tLc (iList K (tVar 1)) (gName 2) (tB (tCB (rIsi K) (tCons (tVar 2) (tCons (tC (.ref C)) tNil)))) (tVar 2) [2]) { nx := fun _ H' => Q .non H', rt := Q } [some v, some (.ref a), none] H1 := fun H1 a xs s1 ha hl hx ek => by
    refine ⟨_, rfl, a, rfl, ⟨_, SqL.of ha⟩, fun D nD => ?_⟩
    have Da : a ≠ D := ne_of_none ha nD
    refine lc_list (K := K) (a := a) (xs := xs) (fun i H3 => Same H1 H3 ∧ H3 D = some (.lst (((xs.take i).filterMap (nodeOf C H)).map V.ref))) ⟨same_new nD, by rw [upd_same]; rfl⟩ (fun i H3 _ ⟨s3, _⟩ => SqL.of (s3 _ _ ha)) ?_ ?_
    · rintro i x H3 hxi ⟨s3, h3⟩
      have hk := hx x (List.mem_of_getElem? hxi)
      obtain ⟨tk, t, hty, hkit⟩ := hk
      have hty3 := tyX_up (tyX_up hty s1) s3
      refine ⟨rfl, ?_⟩
      refine ⟨_, rfl, x, .ref C, _, _, _, rfl, .own _, hty3, hkit, _, rfl, ?_⟩
      have et : (xs.take (i + 1)).filterMap (nodeOf C H) = (xs.take i).filterMap (nodeOf C H) ++ (nodeOf C H x).toList := by
        rw [List.take_succ, hxi, List.filterMap_append]
        show _ ++ List.filterMap (nodeOf C H) [x] = _
        rw [fm_one]
      cases hn : nodeOf C H x with
      | some b =>
        refine iteT ?_
        have e1 := nodeOf_ref hn
        refine ⟨_, rfl, _, h3, ?_, fun c o e => ?_, ?_⟩
        · have z : (1000 : Nat) < sizeLine := by decide
          have z1 := List.length_filterMap_le (nodeOf C H) (xs.take i)
          rw [List.length_take] at z1
          rw [List.length_map]
          omega
        · rw [upd_ne (ne_of_none e nD)]
          exact s3 _ _ e
        · rw [upd_same, et, hn, List.map_append, e1]
          rfl
      | none =>
        refine iteF ?_
        refine ⟨s3, ?_⟩
        rw [et, hn]
        show _ = some (HO.lst ((_ ++ []).map V.ref))
        rw [List.append_nil]
        exact h3
    · rintro H3 ⟨s3, h3⟩
      rw [List.take_length, ek] at h3
      refine q H3 D ?_ (s1.trans s3) h3
      exact s1.free nD
  rcases hf with ⟨a, xs, rfl, ha, hb, hx⟩ | ⟨hi, hl, t, ht, hk⟩
  · refine ⟨_, rfl, .ref a, .ty "list", _, _, _, rfl, .ty _, .base (.lst ha), lst_in, _, rfl, iteT ?_⟩
    exact ⟨_, rfl, go H _ _ (Same.refl H) ha hb hx (kidsV_lst ha).symm⟩
  · refine ⟨_, rfl, v, .ty "list", _, _, _, rfl, .ty _, ht, hk, _, rfl, iteF ?_⟩
    refine ⟨_, rfl, by show 1 ≤ sizeLine; decide, fun a na => ?_⟩
    refine go _ a [v] (same_new na) upd_same (by show 1 ≤ 1000; decide) (fun x hx => by rw [List.mem_singleton.mp hx]; exact hi) ?_
    rw [kidsV_one hl]
    exact fm_one _ _
end
end M4

namespace M4
open PySem PySem.Spec PyProof.Rows L2 StX
/-! ### check_node; errors without fields -/
abbrev vErr : List Value := [.type "ValueError", .type "Exception", .type "BaseException", .type "object"]
structure ErrC (K : PySem.W.Frag) (mg : Str → Option Value) (nm : Str) (C : Addr) : Prop where
  g : mg nm = some (.ref C)
  x : PySem.W.excIn K C vErr "ValueError.__new__" = true
  k : PySem.W.keepIn K (.ref C) = true
  b : PySem.W.subIn K (.ref C) (.type "BaseException") = some true
  t : PySem.W.typeIn K (.ref C) = some (.type "type")
theorem pmk_own0 {X : Cx} {C : Addr} {bmB : List Value} {B newId initId : String} {x : Str} {p pos : Pos} (F : ExcBaseFacts B newId initId bmB) (q : PySem.W.excIn X.K C bmB newId = true) (gC : X.mg x = some (.ref C)) (kC : PySem.W.keepIn X.K (.ref C) = true) (r : Raises X (.ref C)) (hg : Gl X x)
    (hdb : (x == ("__debug__" : Str)) = false := by decide) : PMk X (.Call (.Name x p) [] [] pos) (fun _ H Q => Q (.ref C) none H) := by
  intro pins s σ H Q I h
  refine wpAny_Call_Name_kw (ld_glob I hg gC ?_ hdb)
  refine PySem.W.callWith_K0 I.kIn kC ?_
  show wpAny _ _ (call (.ref C) []) _ _ _
  obtain ⟨bm, N, nm, qn, bs, hdct, sn, sub, ab, col, dd, k0, k1, k2, k3, k5, mN, hC, hN, hni, T⟩ := exc_obj I.kIn q
  refine wpAny_call_exc_subT F T hC hN hni (fun h' e hm => ?_) (by show 0 ≤ sizeLine; exact Nat.zero_le _)
  exact mk_of I hm r h (I.hok.gone hm.new)
abbrev sChk : Stmt := topS 17
theorem scChk : FnScope ["thing"] ["thing"] (defScope sChk) := ⟨rfl, rfl, rfl, by decide +kernel, rfl, by decide +kernel, by decide +kernel⟩
def spChk0 (C : Addr) : Sp := fun vs H Q _ => ∃ p dx fs, vs = [.ref p] ∧ H p = some (.ins C dx fs) ∧ Q .non H
def spChkX (K : PySem.W.Frag) (C CN : Addr) : Sp := fun vs H _ E => ∃ (v : V) (t : Value), vs = [v] ∧ TyX K H v t ∧ PySem.W.kitOne K t (.ref C) = some false ∧ E (.ref CN) none H
section
variable {P : Program} {w : World} {K : PySem.W.Frag} {mg : Str → Option Value} {base : Heap} {C CN : Addr}
theorem ok_chk0 {f : Addr} {fd : FuncData} (F : Fun K "check_node" "check_node" sChk f fd) (Z : Blt mg) (N : NodeI K C) (mN : mg "Node" = some (.ref C)) : FnOk P w K mg base CX0 1 f fd ["thing"] (spChk0 C) := by
  refine F.ok scChk (fun vs H Q E h => ?_) (fun cdv A outer s H vs Q E hr h => ?_)
  · obtain ⟨p, dx, fs, rfl, _⟩ := h
    rfl
  obtain ⟨p, dx, fs, rfl, hp, q⟩ := h
  refine ⟨_, pss_one (ps_if (pt_not (pt_val (pe_callB call_isi (by rfl) Z.isI (by decide +kernel) (pa_cons (pv 0) (pa_cons (pe_glob (v := .ref C) rfl mN rfl) pa_nil))))) (pss_one ps_no) pss_nil), ?_⟩
  exact ⟨_, rfl, .ref p, .ref C, _, _, _, rfl, .own _, .base (.ins hp N.cl N.ha N.hn N.ht N.hm), N.sf, _, rfl, iteF q⟩
theorem ok_chkX {f : Addr} {fd : FuncData} (F : Fun K "check_node" "check_node" sChk f fd) (Z : Blt mg) (mN : mg "Node" = some (.ref C)) (EN : ErrC K mg "BadNode" CN) : FnOk P w K mg base (L2.CX P w) 1 f fd ["thing"] (spChkX K C CN) := by
  refine F.okX scChk (fun vs H Q E h => ?_) (fun cdv A outer s H vs Q E hr h => ?_)
  · obtain ⟨v, t, rfl, _⟩ := h
    rfl
  obtain ⟨v, t, rfl, ht, hk, q⟩ := h
  refine ⟨_, pss_one (ps_if (pt_not (pt_val (pe_callB call_isi (by rfl) Z.isI (by decide +kernel) (pa_cons (pv 0) (pa_cons (pe_glob (v := .ref C) rfl mN rfl) pa_nil)))))
    (pss_one (ps_raise rfl (takes_of rfl rfl rfl rfl) (pmk_own0 PySem.F.excBase_ValueError EN.x EN.g EN.k (raises_own EN.b EN.t) rfl))) pss_nil), ?_⟩
  exact ⟨_, rfl, v, .ref C, _, _, _, rfl, .own _, ht, hk, _, rfl, iteT q⟩
end
/-! ### nodes and trees -/
def NodeAt (C : Addr) (H : Hp) (p : Addr) (k : Str) (vs : List V) : Prop := ∃ dx d m rs, H p = some (.ins C dx (nodeFs k m d)) ∧ H d = some (.dK (fkv (namesOf rs) vs)) ∧ Fld.lookup k = some rs ∧ vs.length = rs.length
theorem NodeAt.up {C : Addr} {H H' : Hp} {p : Addr} {k : Str} {vs : List V} (h : NodeAt C H p k vs) (s : Same H H') : NodeAt C H' p k vs := by
  obtain ⟨dx, d, m, rs, h1, h2, h3, h4⟩ := h
  exact ⟨dx, d, m, rs, s _ _ h1, s _ _ h2, h3, h4⟩
def kidsL (C : Addr) (H : Hp) (vs : List V) : List Addr := vs.flatMap (kidsV C H)
mutual
/-- a tree at p; what stands behind is its nodes, each ahead of those below -/
inductive Tr (K : PySem.W.Frag) (C : Addr) (H : Hp) : Addr → List Addr → Prop
  | mk {p : Addr} {k : Str} {vs : List V} {ls : List Addr} : NodeAt C H p k vs → (∀ v ∈ vs, Vlu K C H v) → TrL K C H (kidsL C H vs) ls → Tr K C H p (p :: ls)
inductive TrL (K : PySem.W.Frag) (C : Addr) (H : Hp) : List Addr → List Addr → Prop
  | nil : TrL K C H [] []
  | cons {p : Addr} {l ps ls : List Addr} : Tr K C H p l → TrL K C H ps ls → TrL K C H (p :: ps) (l ++ ls)
end
theorem TrL.app {K : PySem.W.Frag} {C : Addr} {H : Hp} : ∀ {ps qs ls ms : List Addr}, TrL K C H ps ls → TrL K C H qs ms → TrL K C H (ps ++ qs) (ls ++ ms)
  | [], _, _, _, .nil, h => h
  | _ :: _, _, _, _, .cons h1 h2, h => by
    rw [List.append_assoc]
    exact .cons h1 (h2.app h)
theorem TrL.len {K : PySem.W.Frag} {C : Addr} {H : Hp} : ∀ {ps ls : List Addr}, TrL K C H ps ls → ps.length ≤ ls.length
  | [], _, .nil => Nat.le_refl _
  | _ :: _, _, .cons (.mk _ _ _) h2 => by
    have := h2.len
    simp only [List.length_cons, List.length_append]
    omega
theorem kidsL_up {K : PySem.W.Frag} {C : Addr} {H H' : Hp} (s : Same H H') : ∀ {vs : List V}, (∀ v ∈ vs, Vlu K C H v) → kidsL C H' vs = kidsL C H vs
  | [], _ => rfl
  | v :: r, h => by
    show kidsV C H' v ++ kidsL C H' r = kidsV C H v ++ kidsL C H r
    rw [(h v (List.mem_cons_self ..)).up s |>.2, kidsL_up s fun x hx => h x (List.mem_cons_of_mem _ hx)]
mutual
theorem Tr.up {K : PySem.W.Frag} {C : Addr} {H H' : Hp} (s : Same H H') : ∀ {p : Addr} {l : List Addr}, Tr K C H p l → Tr K C H' p l
  | _, _, .mk n v t => .mk (n.up s) (fun x hx => ((v x hx).up s).1) (by rw [kidsL_up s v]; exact t.up s)
theorem TrL.up {K : PySem.W.Frag} {C : Addr} {H H' : Hp} (s : Same H H') : ∀ {ps ls : List Addr}, TrL K C H ps ls → TrL K C H' ps ls
  | _, _, .nil => .nil
  | _, _, .cons h1 h2 => .cons (h1.up s) (h2.up s)
end
end M4

namespace M4
open PySem PySem.Spec PyProof.Rows L2 StX
abbrev sIC : Stmt := topS 21
theorem scIC : FnScope ["node", "children", "name"] ["node"] (defScope sIC) := ⟨rfl, rfl, rfl, by decide +kernel, rfl, by decide +kernel, by decide +kernel⟩
def spIC (K : PySem.W.Frag) (C : Addr) : Sp := fun us H Q _ => ∃ (p : Addr) (k : Str) (vs : List V), us = [.ref p] ∧ NodeAt C H p k vs ∧ (∀ v ∈ vs, Vlu K C H v) ∧ ∀ (H' : Hp) (D : Addr), H D = none → Same H H' → H' D = some (.lst ((kidsL C H vs).map V.ref)) → Q (.ref D) H'
theorem kidsV_len {K : PySem.W.Frag} {C : Addr} {H : Hp} {v : V} (h : Vlu K C H v) : (kidsV C H v).length ≤ 1000 := by
  rcases h with ⟨a, xs, rfl, h1, h2, _⟩ | ⟨_, h2, _⟩
  · rw [kidsV_lst h1]
    exact Nat.le_trans (List.length_filterMap_le _ _) h2
  · rw [kidsV_one h2]
    cases nodeOf C H v <;> simp
theorem kidsL_len {K : PySem.W.Frag} {C : Addr} {H : Hp} : ∀ {vs : List V}, (∀ v ∈ vs, Vlu K C H v) → (kidsL C H vs).length ≤ vs.length * 1000
  | [], _ => Nat.le_refl _
  | v :: r, h => by
    show (kidsV C H v ++ kidsL C H r).length ≤ _
    have h1 := kidsV_len (h v (List.mem_cons_self ..))
    have h2 := kidsL_len (C := C) (H := H) (vs := r) fun x hx => h x (List.mem_cons_of_mem _ hx)
    rw [List.length_append, List.length_cons]
    omega
theorem kidsL_take {C : Addr} {H : Hp} {vs : List V} {i : Nat} {v : V} (h : vs[i]? = some v) : kidsL C H (vs.take (i + 1)) = kidsL C H (vs.take i) ++ kidsV C H v := by
  unfold kidsL
  rw [List.take_succ, h, List.flatMap_append]
  show _ ++ List.flatMap (kidsV C H) [v] = _
  rw [List.flatMap_singleton]
theorem valV_fkv : ∀ {ns : List Str} {vs : List V} {i : Nat} {nm : Str} {v : V}, ns.Nodup → ns[i]? = some nm → vs[i]? = some v → valV (fkv ns vs) (Sum.inr nm) = some v
  | [], vs, i, nm, v, _, h, _ => by simp at h
  | n :: ns, [], i, nm, v, _, _, h => by simp at h
  | n :: ns, u :: vs, 0, nm, v, _, h1, h2 => by
    cases h1
    cases h2
    exact valV_pos rfl
  | n :: ns, u :: vs, i + 1, nm, v, hn, h1, h2 => by
    have n2 := List.nodup_cons.mp hn
    have ne : n ≠ nm := fun z => n2.1 (z ▸ List.mem_of_getElem? (show ns[i]? = some nm from h1))
    show valV ((Sum.inr n, u) :: fkv ns vs) (Sum.inr nm) = _
    rw [valV_neg (fun z => ne (Sum.inr.inj z))]
    exact valV_fkv n2.2 h1 h2
section
variable {P : Program} {w : World} {K : PySem.W.Frag} {mg : Str → Option Value} {base : Heap} {C : Addr}
theorem ok_ic {f fX fO fN fG fT : Addr} {fd dX dO dN dG : FuncData} (F : Fun K "iter_child_nodes" "iter_child_nodes" sIC f fd) (Nf : NodeF K C) (Nc : NodeC K C fG fT)
    (X : FnOk P w K mg base CX0 1 fX dX ["thing"] (spChk0 C)) (bX : Binds K dX ["thing"] []) (kX : PySem.W.keepIn K (.ref fX) = true) (mX : mg "check_node" = some (.ref fX))
    (O : FnOk P w K mg base CX0 1 fO dO ["kind"] spFO) (bO : Binds K dO ["kind"] []) (kO : PySem.W.keepIn K (.ref fO) = true) (mO : mg "fields_of" = some (.ref fO))
    (NO : FnOk P w K mg base CX0 1 fN dN ["value"] (spNO K C)) (bN : Binds K dN ["value"] []) (kN : PySem.W.keepIn K (.ref fN) = true) (mN : mg "nodes_of" = some (.ref fN))
    (GT : FnOk P w K mg base CX0 1 fG dG ["self", "at"] (spGet C)) (bG : Binds K dG ["self", "at"] []) : FnOk P w K mg base CX0 3 f fd ["node"] (spIC K C) := by
  refine F.ok scIC (fun vs H Q E h => ?_) (fun cdv A outer s H us Q E hr h => ?_)
  · obtain ⟨p, k, vs, rfl, _⟩ := h
    rfl
  obtain ⟨p, k, vs, rfl, hn, hv, q⟩ := h
  have hr1 := hr.mono (show 1 ≤ 2 by decide)
  refine ⟨_, pss_cons (ps_expr (pe_call X hr1 rfl mX kX bX .nil pass0 (pa_cons (pv 0) pa_nil)))
    (pss_cons (ps_set (i := 1) scIC.nd rfl (.inl rfl) (pe_lst pa_nil))
    (pss_cons (ps_for PassesOwn.never rfl (pi_tup (pe_call O hr1 rfl mO kO bO .nil pass0 (pa_cons (pe_fld (pv 0) rfl) pa_nil))) (pg_name (i := 2) scIC.nd rfl (.inl rfl)) (pss_one (ps_aug (i := 1) scIC.nd rfl (.inl rfl) (pe_call NO hr1 rfl mN kN bN .nil pass0 (pa_cons (pe_ixN Nc GT bG hr (pv 0) (pv 2)) pa_nil)) iop_ext)))
    (pss_one (ps_ret (pv 1))))), ?_⟩
  have hn0 := hn
  obtain ⟨dx, d, m, rs, hp, hd, row, hl⟩ := hn
  have hnd := rows_nodup row
  have hs7 := rows_small row
  refine ⟨_, rfl, p, dx, _, rfl, hp, ?_⟩
  refine ⟨by show 0 ≤ sizeLine; exact Nat.zero_le _, fun L nL => ?_⟩
  have s1 : Same H (upd H L (.lst [])) := same_new nL
  have hL : (upd H L (.lst [])) L = some (.lst []) := upd_same
  generalize upd H L (.lst []) = H1 at s1 hL ⊢
  refine ⟨_, rfl, p, C, dx, _, .str k, rfl, s1 _ _ hp, Nf.cl, Nf.n1, rfl, k, rs, rfl, row, fun H2 t nt s2 ht => ?_⟩
  have s12 := s1.trans s2
  refine ⟨t, rfl, ⟨_, SqT.of ht⟩, ?_⟩
  have nl : (namesOf rs).length = rs.length := by unfold namesOf; rw [List.length_map]
  have tL : t ≠ L := fun z => by rw [z, hL] at nt; cases nt
  refine for_tup (K := K) (a := t) (xs := (namesOf rs).map V.str) (fun i σ H' => ∃ x2, σ = [some (.ref p), some (.ref L), x2] ∧ (∀ b o, b ≠ L → H2 b = some o → H' b = some o) ∧ H' L = some (.lst ((kidsL C H (vs.take i)).map V.ref)))
    ⟨none, rfl, fun b o _ e => e, s2 _ _ hL⟩ (fun i σ H' _ ⟨_, _, k, _⟩ => SqT.of (k _ _ tL ht)) ?_ ?_
  · rintro i x σ H3 hx ⟨x2, rfl, k3, h3⟩
    rw [List.getElem?_map] at hx
    obtain ⟨nm, hnm, rfl⟩ := Option.map_eq_some_iff.mp hx
    have hi : i < vs.length := by
      rcases Nat.lt_or_ge i (namesOf rs).length with z | z
      · omega
      · rw [List.getElem?_eq_none z] at hnm; cases hnm
    obtain ⟨v, hvi⟩ : ∃ v, vs[i]? = some v := ⟨_, List.getElem?_eq_getElem hi⟩
    have s3 : Same H H3 := fun b o e => k3 _ _ (fun z => by rw [z, nL] at e; cases e) (s12 _ _ e)
    obtain ⟨vl, vk⟩ := (hv v (List.mem_of_getElem? hvi)).up s3
    refine ⟨_, rfl, _, rfl, _, rfl, p, dx, d, nm, _, _, v, rfl, rfl, s3 _ _ hp, rfl, s3 _ _ hd, valV_fkv hnd hnm hvi, ?_⟩
    refine ⟨v, rfl, vl, fun H4 D nD s4 hD => ?_⟩
    have LD : L ≠ D := fun z => by rw [← z, h3] at nD; cases nD
    rw [vk] at hD
    have l1 := kidsL_len (C := C) (H := H) (vs := vs.take i) fun x hx => hv x (List.mem_of_mem_take hx)
    have l2 := kidsV_len (hv v (List.mem_of_getElem? hvi))
    have l3 : (vs.take i).length ≤ 7 := by rw [List.length_take]; omega
    refine ⟨L, D, _, _, rfl, rfl, s4 _ _ h3, hD, ?_, _, rfl, fun b o nb e => ?_, ?_⟩
    · rw [List.length_map, List.length_map]
      have z : (9000 : Nat) ≤ sizeLine := by decide
      omega
    · rw [upd_ne nb]
      exact s4 _ _ (k3 _ _ nb e)
    · rw [upd_same, kidsL_take hvi, List.map_append]
  · rintro σ H3 ⟨x2, rfl, k3, h3⟩
    have e : ((namesOf rs).map V.str).length = vs.length := by rw [List.length_map, nl, hl]
    rw [e, List.take_length] at h3
    exact ⟨_, rfl, q H3 L nL (fun b o e => k3 _ _ (fun z => by rw [z, nL] at e; cases e) (s12 _ _ e)) h3⟩
end
end M4

namespace M4
open PySem PySem.Spec PyProof.Rows L2 StX
abbrev sWk : Stmt := topS 20
theorem scWk : FnScope ["node", "found", "waiting", "part"] ["node"] (defScope sWk) := ⟨rfl, rfl, rfl, by decide +kernel, rfl, by decide +kernel, by decide +kernel⟩
def spWk (K : PySem.W.Frag) (C : Addr) : Sp := fun us H Q _ => ∃ (p : Addr) (l : List Addr), us = [.ref p] ∧ Tr K C H p l ∧ l.length ≤ 1000000 ∧ ∀ (H' : Hp) (D : Addr), H D = none → Same H H' → H' D = some (.lst (l.map V.ref)) → Q (.ref D) H'
theorem Tr.node {K : PySem.W.Frag} {C : Addr} {H : Hp} {p : Addr} {l : List Addr} (h : Tr K C H p l) : ∃ k vs ls, l = p :: ls ∧ NodeAt C H p k vs ∧ (∀ v ∈ vs, Vlu K C H v) ∧ TrL K C H (kidsL C H vs) ls := by
  cases h with
  | mk n v t => exact ⟨_, _, _, rfl, n, v, t⟩
section
variable {P : Program} {w : World} {K : PySem.W.Frag} {mg : Str → Option Value} {base : Heap} {C : Addr}
theorem ok_wk {f fX fI : Addr} {fd dX dI : FuncData} (F : Fun K "walk" "walk" sWk f fd)
    (X : FnOk P w K mg base CX0 1 fX dX ["thing"] (spChk0 C)) (bX : Binds K dX ["thing"] []) (kX : PySem.W.keepIn K (.ref fX) = true) (mX : mg "check_node" = some (.ref fX))
    (I : FnOk P w K mg base CX0 3 fI dI ["node"] (spIC K C)) (bI : Binds K dI ["node"] []) (kI : PySem.W.keepIn K (.ref fI) = true) (mI : mg "iter_child_nodes" = some (.ref fI)) : FnOk P w K mg base CX0 4 f fd ["node"] (spWk K C) := by
  refine F.ok scWk (fun vs H Q E h => ?_) (fun cdv A outer s H us Q E hr h => ?_)
  · obtain ⟨p, l, rfl, _⟩ := h
    rfl
  obtain ⟨p, l, rfl, ht, hlen, q⟩ := h
  have hr1 := hr.mono (show 1 ≤ 3 by decide)
  refine ⟨_, pss_cons (ps_expr (pe_call X hr1 rfl mX kX bX .nil pass0 (pa_cons (pv 0) pa_nil)))
    (pss_cons (ps_set (i := 1) scWk.nd rfl (.inl rfl) (pe_lst pa_nil))
    (pss_cons (ps_set (i := 2) scWk.nd rfl (.inl rfl) (pe_lst (pa_cons (pv 0) pa_nil)))
    (C8.pss_cut (ps_while PassesOwn.never (pt_truth (pv 2) (fun _ => rfl)) (pss_cons (ps_set (i := 3) scWk.nd rfl (.inl rfl) (pe_bm0 PySem.F.plainAttrs_list PySem.F.slot_list_pop PySem.F.type_list_pop mt_pop (pv 2)))
    (pss_cons (ps_expr (pe_bm PySem.F.plainAttrs_list PySem.F.slot_list_append PySem.F.type_list_append mt_append (pv 1) (pa_cons (pv 3) pa_nil)))
    (pss_one (ps_aug (i := 2) scWk.nd rfl (.inl rfl) (pe_revL (pe_call I hr rfl mI kI bI .nil pass0 (pa_cons (pv 3) pa_nil))) iop_ext)))))
    (pss_one (ps_ret (pv 1)))))), ?_⟩
  obtain ⟨k0, vs0, ls0, el0, n0, v0, t0⟩ := ht.node
  obtain ⟨dx, d, m, rs, hp, _⟩ := n0
  refine ⟨_, rfl, p, dx, _, rfl, hp, ?_⟩
  refine ⟨by show 0 ≤ sizeLine; exact Nat.zero_le _, fun F0 nF => ?_⟩
  have s1 : Same H (upd H F0 (.lst [])) := same_new nF
  have hF : (upd H F0 (.lst [])) F0 = some (.lst []) := upd_same
  generalize upd H F0 (.lst []) = H1 at s1 hF ⊢
  refine ⟨_, rfl, by show 1 ≤ sizeLine; decide, fun W nW => ?_⟩
  have s2 : Same H1 (upd H1 W (.lst [.ref p])) := same_new nW
  have hW : (upd H1 W (.lst [.ref p])) W = some (.lst [.ref p]) := upd_same
  have hF2 := s2 _ _ hF
  generalize upd H1 W (.lst [.ref p]) = H2 at s2 hW hF2 ⊢
  have FW : F0 ≠ W := ne_of_none hF nW
  have nWH : H W = none := s1.free nW
  have s02 := s1.trans s2
  have zL : (1000000 : Nat) < sizeLine := by decide
  refine ⟨fun σ H' => ∃ x3, σ = [some (.ref p), some (.ref F0), some (.ref W), x3] ∧ Same H H' ∧ H' F0 = some (.lst (l.map V.ref)), ?_, ?_⟩
  rotate_left
  · rintro σ H' ⟨x3, rfl, s, h⟩
    exact ⟨_, rfl, q H' F0 nF s h⟩
  refine ⟨fun n σ H' => ∃ (x3 : Option V) (ws done rest : List Addr), σ = [some (.ref p), some (.ref F0), some (.ref W), x3] ∧ n = rest.length ∧ Same H H' ∧ H' W = some (.lst (ws.reverse.map V.ref)) ∧ H' F0 = some (.lst (done.map V.ref)) ∧ TrL K C H ws rest ∧ done ++ rest = l,
    ⟨l.length, none, [p], [], l, rfl, rfl, s02, hW, hF2, by have z := TrL.cons ht .nil; rw [List.append_nil] at z; exact z, rfl⟩, ?_⟩
  rintro n σ H3 ⟨x3, ws, done, rest, rfl, rfl, s3, w3, f3, tr, el⟩
  refine ⟨_, rfl, _, .inl ⟨_, SqL.of w3, rfl⟩, ?_⟩
  cases ws with
  | nil =>
    refine iteF ?_
    cases tr
    rw [List.append_nil] at el
    exact ⟨x3, rfl, s3, by rw [← el]; exact f3⟩
  | cons c ws' =>
    rw [show (!((c :: ws').reverse.map V.ref).isEmpty) = true from by simp]
    refine iteT ?_
    obtain ⟨l1, ls2, erest, tc, tr2⟩ : ∃ l1 ls2, rest = l1 ++ ls2 ∧ Tr K C H c l1 ∧ TrL K C H ws' ls2 := by
      cases tr with
      | cons h1 h2 => exact ⟨_, _, rfl, h1, h2⟩
    obtain ⟨k, vs, ls, e1, nc, vc, tk⟩ := tc.node
    subst e1
    subst erest
    refine ⟨fun σ' H' => ∃ (y3 : Option V) (ws2 done2 rest2 : List Addr), σ' = [some (.ref p), some (.ref F0), some (.ref W), y3] ∧ rest2.length < (c :: ls ++ ls2).length ∧ Same H H' ∧ H' W = some (.lst (ws2.reverse.map V.ref)) ∧ H' F0 = some (.lst (done2.map V.ref)) ∧ TrL K C H ws2 rest2 ∧ done2 ++ rest2 = l,
      fun σ' H' ⟨y3, ws2, done2, rest2, h1, h2, h3⟩ => ⟨rest2.length, h2, y3, ws2, done2, rest2, h1, rfl, h3⟩, ?_⟩
    have er : (c :: ws').reverse.map V.ref = ws'.reverse.map V.ref ++ [V.ref c] := by rw [List.reverse_cons, List.map_append]; rfl
    rw [er] at w3
    refine ⟨_, rfl, .inl ⟨rfl, _, SqL.of w3⟩, W, _, .ref c, rfl, rfl, w3, by simp, ?_⟩
    have e2 : (ws'.reverse.map V.ref ++ [V.ref c]).dropLast = ws'.reverse.map V.ref := by simp
    rw [e2]
    have s4 : Same H (upd H3 W (.lst (ws'.reverse.map V.ref))) := fun b o e => by rw [upd_ne (ne_of_none e nWH)]; exact s3 _ _ e
    have w4 : (upd H3 W (.lst (ws'.reverse.map V.ref))) W = some (.lst (ws'.reverse.map V.ref)) := upd_same
    have f4 : (upd H3 W (.lst (ws'.reverse.map V.ref))) F0 = some (.lst (done.map V.ref)) := by rw [upd_ne FW]; exact f3
    generalize upd H3 W (.lst (ws'.reverse.map V.ref)) = H4 at s4 w4 f4 ⊢
    have ll : done.length + (ls.length + 1 + ls2.length) = l.length := by
      rw [← el]
      simp only [List.length_append, List.length_cons]
    refine ⟨_, rfl, .inl ⟨rfl, _, SqL.of f4⟩, _, rfl, F0, _, _, rfl, rfl, f4, by rw [List.length_map]; omega, ?_⟩
    have s5 : Same H (upd H4 F0 (.lst (done.map V.ref ++ [V.ref c]))) := fun b o e => by rw [upd_ne (ne_of_none e nF)]; exact s4 _ _ e
    have f5 : (upd H4 F0 (.lst (done.map V.ref ++ [V.ref c]))) F0 = some (.lst ((done ++ [c]).map V.ref)) := by rw [upd_same, List.map_append]; rfl
    have w5 : (upd H4 F0 (.lst (done.map V.ref ++ [V.ref c]))) W = some (.lst (ws'.reverse.map V.ref)) := by rw [upd_ne FW.symm]; exact w4
    generalize upd H4 F0 (.lst (done.map V.ref ++ [V.ref c])) = H5 at s5 f5 w5 ⊢
    refine ⟨_, rfl, _, rfl, c, k, vs, rfl, nc.up s5, fun v hv => ((vc v hv).up s5).1, fun H6 D nD s6 hD => ⟨D, _, rfl, SqL.of hD, fun R nR => ?_⟩⟩
    rw [kidsL_up s5 vc]
    have kl := tk.len
    have wl := tr2.len
    have WR : W ≠ R := ne_of_none (s6 _ _ w5) nR
    have FR : F0 ≠ R := ne_of_none (s6 _ _ f5) nR
    refine ⟨W, R, _, _, rfl, rfl, same_new nR _ _ (s6 _ _ w5), upd_same, ?_, ?_⟩
    · rw [List.length_map, List.length_reverse, List.length_reverse, List.length_map]
      omega
    · refine ⟨_, kidsL C H vs ++ ws', done ++ [c], ls ++ ls2, rfl, by simp, ?_, ?_, ?_, tk.app tr2, by rw [← el]; simp⟩
      · intro b o e
        rw [upd_ne (ne_of_none e nWH)]
        exact same_new nR _ _ (s6 _ _ (s5 _ _ e))
      · rw [upd_same, List.reverse_append, List.map_append, List.map_reverse, List.map_reverse]
      · rw [upd_ne FW]
        exact same_new nR _ _ (s6 _ _ f5)
end
end M4

namespace M4
open PySem PySem.Spec PyProof.Rows L2
/-! ### d.update(e), e another dict of ours -/
def rUpd : V → List V → Hp → VK → Prop := fun x vs H Q => ∃ (a b : Addr) (kvs more : List (Key × V)), x = .ref a ∧ vs = [.ref b] ∧ a ≠ b ∧ H a = some (.dK kvs) ∧ H b = some (.dK more) ∧ kvs.length + more.length ≤ sizeLine ∧ Q .non (upd H a (.dK (mergeK kvs more)))
theorem mt_update {X : Cx} : MtR X "dict.update" rUpd := by
  intro pins s σ H x vs v us Q I rx rv h
  obtain ⟨a, b, kvs, more, rfl, rfl, hab, ha, hb, hz, q⟩ := h
  obtain rfl : v = Value.ref a := rx
  obtain ⟨u, rfl, ru⟩ := vals1 rv
  obtain rfl : u = Value.ref b := ru
  obtain ⟨z1, hd1, vs1, r1, dd1⟩ := dk_of I.hok ha
  obtain ⟨z2, hd2, vs2, r2, dd2⟩ := dk_of I.hok hb
  refine call_meetsIn PySem.F.slot_dict_update dd1.typeIs PySem.F.entry_dict_update (PySem.F.args_dict_update_2 _ _) (meets_dict_update (mixKind X.prog X.w) a b hab hd2) ⟨vs1, vs2, dd1, dd2, by rw [← r1.length, ← r2.length]; exact hz, fun h' d1 d2 hs => ⟨.non, _, ?_, rfl, q⟩⟩
  have hz' : (mergeK kvs more).length ≤ sizeLine := by
    have h1 := length_mergeK more kvs
    omega
  have he : ∃ q, h'.get? a = some q := let ⟨q, _, _, hq, _⟩ := d1; ⟨q, hq⟩
  exact d_write I (by rw [ha]; exact True.intro) hs he (dk_new hz' hd1 (r2.merge r1) d1)
/-! ### dicts of texts, written in steps -/
def kvOf (rows : List (Str × Str)) : List (Key × V) := rows.map fun p => (.inr p.1, .str p.2)
def putR (A : List (Str × Str)) (k v : Str) : List (Str × Str) := if A.any (fun p => decide (p.1 = k)) = true then A.map (fun p => if p.1 = k then (p.1, v) else p) else A ++ [(k, v)]
def mergeR (A B : List (Str × Str)) : List (Str × Str) := B.foldl (fun acc p => putR acc p.1 p.2) A
theorem putK_of (A : List (Str × Str)) (k v : Str) : putK (kvOf A) (.inr k) (.str v) = kvOf (putR A k v) := by
  have e : (kvOf A).any (fun kv => decide (kv.1 = Sum.inr k)) = A.any (fun p => decide (p.1 = k)) := by
    unfold kvOf
    rw [List.any_map]
    congr 1
    funext p
    show decide ((Sum.inr p.1 : Key) = Sum.inr k) = decide (p.1 = k)
    by_cases h : p.1 = k
    · rw [h]; simp
    · rw [decide_eq_false h, decide_eq_false (fun z => h (Sum.inr.inj z))]
  unfold putK putR
  rw [e]
  by_cases h : A.any (fun p => decide (p.1 = k)) = true
  · rw [if_pos h, if_pos h]
    unfold kvOf
    rw [List.map_map, List.map_map]
    refine List.map_congr_left fun p _ => ?_
    show (if (Sum.inr p.1 : Key) = Sum.inr k then ((Sum.inr p.1 : Key), V.str v) else (Sum.inr p.1, V.str p.2)) = ((Sum.inr (if p.1 = k then (p.1, v) else p).1 : Key), V.str (if p.1 = k then (p.1, v) else p).2)
    by_cases q : p.1 = k
    · rw [if_pos q, if_pos (by rw [q])]
    · rw [if_neg q, if_neg (fun z => q (Sum.inr.inj z))]
  · rw [if_neg h, if_neg h]
    unfold kvOf
    rw [List.map_append]
    rfl
theorem mergeK_of : ∀ (B A : List (Str × Str)), mergeK (kvOf A) (kvOf B) = kvOf (mergeR A B)
  | [], _ => rfl
  | p :: r, A => by
    show mergeK (putK (kvOf A) (.inr p.1) (.str p.2)) (kvOf r) = kvOf (mergeR (putR A p.1 p.2) r)
    rw [putK_of, mergeK_of r]
theorem putR_len (A : List (Str × Str)) (k v : Str) : (putR A k v).length ≤ A.length + 1 := by
  unfold putR
  split
  · rw [List.length_map]; omega
  · simp
theorem mergeR_len : ∀ (B A : List (Str × Str)), (mergeR A B).length ≤ A.length + B.length
  | [], _ => Nat.le_refl _
  | p :: r, A => by
    have h1 := mergeR_len r (putR A p.1 p.2)
    have h2 := putR_len A p.1 p.2
    show (mergeR (putR A p.1 p.2) r).length ≤ _
    rw [List.length_cons]
    omega
/-- a table of texts at p, new since H0 -/
structure Tab (H0 H : Hp) (p : Addr) (rows : List (Str × Str)) : Prop where
  n0 : H0 p = none
  sm : Same H0 H
  at_ : H p = some (.dK (kvOf rows))
theorem Tab.new {H : Hp} {p : Addr} {B : List (Str × Str)} (n : H p = none) : Tab H (upd (upd H p (.dK [])) p (.dK (mergeK [] (kvOf B)))) p (mergeR [] B) := by
  refine ⟨n, fun b o e => ?_, ?_⟩
  · have nb := ne_of_none e n
    rw [upd_ne nb, upd_ne nb]; exact e
  · rw [upd_same]
    exact congrArg some (congrArg HO.dK (mergeK_of B []))
theorem Tab.upd {H0 H : Hp} {p p2 : Addr} {A B : List (Str × Str)} (t : Tab H0 H p A) (n : H p2 = none) :
    Tab H0 (L2.upd (L2.upd (L2.upd H p2 (.dK [])) p2 (.dK (mergeK [] (kvOf B)))) p (.dK (mergeK (kvOf A) (mergeK [] (kvOf B))))) p (mergeR A (mergeR [] B)) := by
  obtain ⟨n0, s, hp⟩ := t
  refine ⟨n0, fun b o e => ?_, ?_⟩
  · have nb : b ≠ p := ne_of_none e n0
    have nb2 : b ≠ p2 := ne_of_none (s _ _ e) n
    rw [upd_ne nb, upd_ne nb2, upd_ne nb2]; exact s _ _ e
  · rw [upd_same, show mergeK [] (kvOf B) = kvOf (mergeR [] B) from mergeK_of B [], mergeK_of]
theorem Tab.put {H0 H : Hp} {p : Addr} {A : List (Str × Str)} {k v : Str} (t : Tab H0 H p A) : Tab H0 (L2.upd H p (.dK (putK (kvOf A) (.inr k) (.str v)))) p (putR A k v) := by
  obtain ⟨n0, s, hp⟩ := t
  refine ⟨n0, fun b o e => ?_, ?_⟩
  · rw [upd_ne (ne_of_none e n0)]; exact s _ _ e
  · rw [upd_same, putK_of]
theorem Tab.up {H0 H H' : Hp} {p : Addr} {A : List (Str × Str)} (t : Tab H0 H p A) (s : Same H H') : Tab H0 H' p A := ⟨t.n0, t.sm.trans s, s _ _ t.at_⟩
theorem Tab.dput {H0 H : Hp} {p : Addr} {A : List (Str × Str)} {k v : Str} (t : Tab H0 H p A) (hl : A.length < 1000) : DPut H p (.str k) (.str v) (L2.upd H p (.dK (putK (kvOf A) (.inr k) (.str v)))) :=
  DPut.k (k := Sum.inr k) t.at_ (by unfold kvOf; rw [List.length_map]; have z : (1000 : Nat) ≤ sizeLine := (by decide); omega)
theorem kvOf_len (A : List (Str × Str)) : (kvOf A).length = A.length := List.length_map _
/-- what such a def promises -/
def spTab (rows : List (Str × Str)) : Sp := fun vs H Q _ => vs = [] ∧ ∀ (H' : Hp) (p : Addr), Tab H H' p rows → Q (.ref p) H'
end M4

namespace M4
open PySem PySem.Spec PyProof.Rows L2
theorem len_ok (A B : List (Str × Str)) (h : A.length + B.length ≤ 1000) : (kvOf A).length + (mergeK [] (kvOf B)).length ≤ sizeLine := by
  have e : mergeK [] (kvOf B) = kvOf (mergeR [] B) := mergeK_of B []
  have l := mergeR_len B []
  rw [e, kvOf_len, kvOf_len]
  have z : (1000 : Nat) ≤ sizeLine := by decide
  simp only [List.length_nil] at l
  omega
theorem len_ok2 (A B : List (Str × Str)) (h : A.length + B.length ≤ 1000) : (kvOf A).length + (kvOf B).length ≤ sizeLine := by
  rw [kvOf_len, kvOf_len]
  have z : (1000 : Nat) ≤ sizeLine := by decide
  omega
theorem Tab.mrg {H0 H : Hp} {p : Addr} {A B : List (Str × Str)} (t : Tab H0 H p A) : Tab H0 (L2.upd H p (.dK (mergeK (kvOf A) (kvOf B)))) p (mergeR A B) := by
  obtain ⟨n0, s, hp⟩ := t
  refine ⟨n0, fun b o e => ?_, ?_⟩
  · rw [upd_ne (ne_of_none e n0)]; exact s _ _ e
  · rw [upd_same, mergeK_of]
theorem valV_kvOf (A : List (Str × Str)) (k : Str) : valV (kvOf A) (.inr k) = (A.lookup k).map V.str := by
  induction A with
  | nil => rfl
  | cons p r ih =>
    obtain ⟨a, b⟩ := p
    by_cases e : a = k
    · subst e
      show valV ((Sum.inr a, V.str b) :: kvOf r) (Sum.inr a) = _
      rw [valV_pos rfl]
      simp [List.lookup]
    · show valV ((Sum.inr a, V.str b) :: kvOf r) (Sum.inr k) = _
      rw [valV_neg (fun z => e (Sum.inr.inj z)), ih, List.lookup_cons]
      have n : (k == a) = false := by simpa using fun z : k = a => e z.symm
      rw [n]
theorem Tab.dget {H0 H : Hp} {p : Addr} {A : List (Str × Str)} {k v : Str} (t : Tab H0 H p A) (h : A.lookup k = some v) : DGet H p (.str k) (some (.str v)) := by
  have d := DGet.k (k := Sum.inr k) t.at_
  rw [valV_kvOf, h] at d
  exact d
def PtR0 : List (Str × Str) := [("MatchSequence", "patterns T*"), ("MatchStar", "name N?"), ("MatchValue", "value E")]
def PtT0 : List (Str × Str) := mergeR [] PtR0
def PtR1 : List (Str × Str) := [("MatchAs", "pattern T?;name N?"), ("MatchOr", "patterns T+"), ("MatchSingleton", "value G")]
def PtT1 : List (Str × Str) := mergeR PtT0 (mergeR [] PtR1)
def PtT2 : List (Str × Str) := putR PtT1 "MatchMapping" "keys E*;patterns T*;rest N?"
def PtT3 : List (Str × Str) := putR PtT2 "MatchClass" "cls E;patterns T*;kwd_attrs N*;kwd_patterns T*"
def PatRows : List (Str × Str) := PtT3
abbrev sPt : Stmt := topS 27
theorem scPt : FnScope ["_law_rows"] [] (defScope sPt) := ⟨rfl, rfl, rfl, by decide +kernel, rfl, by decide +kernel, by decide +kernel⟩
theorem ok_pt {P : Program} {w : World} {K : PySem.W.Frag} {mg : Str → Option Value} {base : Heap} {f : Addr} {fd : FuncData} (F : Fun K "_law_pattern_table" "_law_pattern_table" sPt f fd) : FnOk P w K mg base CX0 1 f fd [] (spTab PatRows) := by
  refine F.ok scPt (fun vs H Q E h => ?_) (fun cdv A outer s H vs Q E hr h => ?_)
  · rw [h.1]; rfl
  obtain ⟨rfl, q⟩ := h
  refine ⟨_, pss_cons (ps_set (i := 0) scPt.nd rfl (.inl rfl) (pe_disp (pps_cons pe_str pe_str (pps_cons pe_str pe_str (pps_cons pe_str pe_str pps_nil))) (by rfl) (by rfl) (fun z => by cases z) (by decide)))
    (pss_cons (ps_expr (pe_bm PySem.F.plainAttrs_dict PySem.F.slot_dict_update PySem.F.type_dict_update mt_update (pv 0) (pa_cons (pe_disp (pps_cons pe_str pe_str (pps_cons pe_str pe_str (pps_cons pe_str pe_str pps_nil))) (by rfl) (by rfl) (fun z => by cases z) (by decide)) pa_nil)))
    (pss_cons (ps_dput (hu_of hr) (pv 0) pe_str pe_str (by rfl))
    (pss_cons (ps_dput (hu_of hr) (pv 0) pe_str pe_str (by rfl))
    (pss_one (ps_ret (pv 0)))))), ?_⟩
  refine fun p np => ⟨upd_same, kvOf PtR0, rfl, by decide, ?_⟩
  have t0 : Tab H _ p PtT0 := Tab.new (B := PtR0) np
  generalize upd (upd H p (.dK [])) p (.dK (mergeK [] (kvOf PtR0))) = H0 at t0 ⊢
  refine ⟨_, rfl, .inr (.inr (.inl ⟨rfl, .inl ⟨_, t0.at_⟩⟩)), fun p1 np1 => ?_⟩
  have n1 : p ≠ p1 := ne_of_none t0.at_ np1
  refine ⟨upd_same, kvOf PtR1, rfl, by decide, p, p1, _, _, rfl, rfl, n1, by rw [upd_ne n1, upd_ne n1]; exact t0.at_, upd_same, len_ok _ _ (by decide +kernel), ?_⟩
  have t1 : Tab H _ p PtT1 := t0.upd (B := PtR1) np1
  generalize upd (upd (upd H0 p1 (.dK [])) p1 (.dK (mergeK [] (kvOf PtR1)))) p (.dK (mergeK (kvOf PtT0) (mergeK [] (kvOf PtR1)))) = H1 at t1 ⊢
  refine ⟨_, rfl, p, _, rfl, t1.dput (by decide +kernel), ?_⟩
  have t2 : Tab H _ p PtT2 := t1.put (k := "MatchMapping") (v := "keys E*;patterns T*;rest N?")
  generalize upd H1 p (.dK (putK (kvOf PtT1) (.inr "MatchMapping") (.str "keys E*;patterns T*;rest N?"))) = H2 at t2 ⊢
  refine ⟨_, rfl, p, _, rfl, t2.dput (by decide +kernel), ?_⟩
  have t3 : Tab H _ p PtT3 := t2.put (k := "MatchClass") (v := "cls E;patterns T*;kwd_attrs N*;kwd_patterns T*")
  generalize upd H2 p (.dK (putK (kvOf PtT2) (.inr "MatchClass") (.str "cls E;patterns T*;kwd_attrs N*;kwd_patterns T*"))) = H3 at t3 ⊢
  exact ⟨_, rfl, q H3 p t3⟩
def TbR0 : List (Str × Str) := [("Module", "body S*"), ("Expression", "body E"), ("Return", "value E?"), ("Expr", "value E")]
def TbT0 : List (Str × Str) := mergeR [] TbR0
def TbT1 : List (Str × Str) := putR (putR TbT0 "FunctionDef" "name N;args arguments;body S+;decorator_list E*;returns E?") "AsyncFunctionDef" "name N;args arguments;body S+;decorator_list E*;returns E?"
def TbR2 : List (Str × Str) := [("ClassDef", "name N;bases E*;keywords keyword*;body S+;decorator_list E*")]
def TbT2 : List (Str × Str) := mergeR TbT1 (mergeR [] TbR2)
def TbT3 : List (Str × Str) := putR TbT2 "Delete" "targets E+"
def TbR4 : List (Str × Str) := [("Assign", "targets E+;value E"), ("AnnAssign", "target E;annotation E;value E?;simple B")]
def TbT4 : List (Str × Str) := mergeR TbT3 (mergeR [] TbR4)
def TbR5 : List (Str × Str) := [("AugAssign", "target E;op P;value E"), ("Raise", "exc E?;cause E?")]
def TbT5 : List (Str × Str) := mergeR TbT4 (mergeR [] TbR5)
def TbT6 : List (Str × Str) := putR TbT5 "Assert" "test E;msg E?"
def TbT7 : List (Str × Str) := putR (putR TbT6 "For" "target E;iter E;body S+;orelse S*") "AsyncFor" "target E;iter E;body S+;orelse S*"
def TbT8 : List (Str × Str) := putR (putR TbT7 "With" "items withitem+;body S+") "AsyncWith" "items withitem+;body S+"
def TbT9 : List (Str × Str) := putR (putR TbT8 "While" "test E;body S+;orelse S*") "If" "test E;body S+;orelse S*"
def TbR10 : List (Str × Str) := [("Import", "names alias+"), ("ImportFrom", "module N?;names alias+;level B")]
def TbT10 : List (Str × Str) := mergeR TbT9 (mergeR [] TbR10)
def TbR11 : List (Str × Str) := [("Global", "names N+"), ("Nonlocal", "names N+")]
def TbT11 : List (Str × Str) := mergeR TbT10 (mergeR [] TbR11)
def TbR12 : List (Str × Str) := [("Try", "body S+;handlers ExceptHandler*;orelse S*;finalbody S*")]
def TbT12 : List (Str × Str) := mergeR TbT11 (mergeR [] TbR12)
def TbR13 : List (Str × Str) := [("Match", "subject E;cases match_case+"), ("match_case", "pattern T;guard E?;body S+")]
def TbT13 : List (Str × Str) := mergeR TbT12 (mergeR [] TbR13)
def TbR14 : List (Str × Str) := [("BoolOp", "op O;values E+"), ("BinOp", "left E;op P;right E"), ("UnaryOp", "op U;operand E")]
def TbT14 : List (Str × Str) := mergeR TbT13 (mergeR [] TbR14)
def TbR15 : List (Str × Str) := [("NamedExpr", "target E;value E"), ("IfExp", "test E;body E;orelse E"), ("Set", "elts E+")]
def TbT15 : List (Str × Str) := mergeR TbT14 (mergeR [] TbR15)
def TbR16 : List (Str × Str) := [("Lambda", "args arguments;body E"), ("Dict", "keys E?*;values E*"), ("Name", "id N;ctx X")]
def TbT16 : List (Str × Str) := mergeR TbT15 (mergeR [] TbR16)
def TbR17 : List (Str × Str) := [("Await", "value E"), ("Yield", "value E?"), ("YieldFrom", "value E"), ("Starred", "value E;ctx X")]
def TbT17 : List (Str × Str) := mergeR TbT16 (mergeR [] TbR17)
def TbR18 : List (Str × Str) := [("Compare", "left E;ops C+;comparators E+"), ("Call", "func E;args E*;keywords keyword*")]
def TbT18 : List (Str × Str) := mergeR TbT17 (mergeR [] TbR18)
def TbR19 : List (Str × Str) := [("Constant", "value V"), ("Attribute", "value E;attr N;ctx X"), ("List", "elts E*;ctx X")]
def TbT19 : List (Str × Str) := mergeR TbT18 (mergeR [] TbR19)
def TbR20 : List (Str × Str) := [("Subscript", "value E;slice E;ctx X"), ("Slice", "lower E?;upper E?;step E?")]
def TbT20 : List (Str × Str) := mergeR TbT19 (mergeR [] TbR20)
def TbR21 : List (Str × Str) := [("FormattedValue", "value E;conversion W;format_spec JoinedStr?")]
def TbT21 : List (Str × Str) := mergeR TbT20 (mergeR [] TbR21)
def TbR22 : List (Str × Str) := [("JoinedStr", "values E*"), ("Tuple", "elts E*;ctx X")]
def TbT22 : List (Str × Str) := mergeR TbT21 (mergeR [] TbR22)
def TbT23 : List (Str × Str) := putR (putR (putR TbT22 "ListComp" "elt E;generators comprehension+") "SetComp" "elt E;generators comprehension+") "GeneratorExp" "elt E;generators comprehension+"
def TbR24 : List (Str × Str) := [("DictComp", "key E;value E;generators comprehension+"), ("keyword", "arg N?;value E")]
def TbT24 : List (Str × Str) := mergeR TbT23 (mergeR [] TbR24)
def TbR25 : List (Str × Str) := [("comprehension", "target E;iter E;ifs E*;is_async B"), ("alias", "name N;asname N?")]
def TbT25 : List (Str × Str) := mergeR TbT24 (mergeR [] TbR25)
def TbR26 : List (Str × Str) := [("ExceptHandler", "exc E?;name N?;body S+"), ("arg", "arg N;annotation E?")]
def TbT26 : List (Str × Str) := mergeR TbT25 (mergeR [] TbR26)
def TbT27 : List (Str × Str) := putR TbT26 "arguments" "posonlyargs arg*;args arg*;vararg arg?;kwonlyargs arg*;kw_defaults E?*;kwarg arg?"
def TbT28 : List (Str × Str) := putR TbT27 "arguments" ("posonlyargs arg*;args arg*;vararg arg?;kwonlyargs arg*;kw_defaults E?*;kwarg arg?" ++ ";defaults E*")
def TbR29 : List (Str × Str) := [("withitem", "context_expr E;optional_vars E?")]
def TbT29 : List (Str × Str) := mergeR TbT28 (mergeR [] TbR29)
def TbT30 : List (Str × Str) := mergeR TbT29 PatRows
def TblRows : List (Str × Str) := TbT30
abbrev sTb : Stmt := topS 26
theorem scTb : FnScope ["_law_rows", "_law_kind"] [] (defScope sTb) := ⟨rfl, rfl, rfl, by decide +kernel, rfl, by decide +kernel, by decide +kernel⟩
theorem ok_tb {P : Program} {w : World} {K : PySem.W.Frag} {mg : Str → Option Value} {base : Heap} {f fP : Addr} {fd dP : FuncData} (F : Fun K "_law_table" "_law_table" sTb f fd)
    (PT : FnOk P w K mg base CX0 1 fP dP [] (spTab PatRows)) (bPT : Binds K dP [] []) (kPT : PySem.W.keepIn K (.ref fP) = true) (mPT : mg "_law_pattern_table" = some (.ref fP)) : FnOk P w K mg base CX0 2 f fd [] (spTab TblRows) := by
  refine F.ok scTb (fun vs H Q E h => ?_) (fun cdv A outer s H vs Q E hr h => ?_)
  · rw [h.1]; rfl
  obtain ⟨rfl, q⟩ := h
  refine ⟨_, pss_cons (ps_set (i := 0) scTb.nd rfl (.inl rfl) (pe_disp (pps_cons pe_str pe_str (pps_cons pe_str pe_str (pps_cons pe_str pe_str (pps_cons pe_str pe_str pps_nil)))) (by rfl) (by rfl) (fun z => by cases z) (by decide)))
    (pss_cons (ps_for PassesOwn.never rfl (pi_tup (pe_tup (pa_cons pe_str (pa_cons pe_str pa_nil)))) (pg_name (i := 1) scTb.nd rfl (.inl rfl)) (pss_one (ps_dput (hu_of hr) (pv 0) (pv 1) pe_str (by rfl))))
    (pss_cons (ps_expr (pe_bm PySem.F.plainAttrs_dict PySem.F.slot_dict_update PySem.F.type_dict_update mt_update (pv 0) (pa_cons (pe_disp (pps_cons pe_str pe_str pps_nil) (by rfl) (by rfl) (fun z => by cases z) (by decide)) pa_nil)))
    (pss_cons (ps_dput (hu_of hr) (pv 0) pe_str pe_str (by rfl))
    (pss_cons (ps_expr (pe_bm PySem.F.plainAttrs_dict PySem.F.slot_dict_update PySem.F.type_dict_update mt_update (pv 0) (pa_cons (pe_disp (pps_cons pe_str pe_str (pps_cons pe_str pe_str pps_nil)) (by rfl) (by rfl) (fun z => by cases z) (by decide)) pa_nil)))
    (pss_cons (ps_expr (pe_bm PySem.F.plainAttrs_dict PySem.F.slot_dict_update PySem.F.type_dict_update mt_update (pv 0) (pa_cons (pe_disp (pps_cons pe_str pe_str (pps_cons pe_str pe_str pps_nil)) (by rfl) (by rfl) (fun z => by cases z) (by decide)) pa_nil)))
    (pss_cons (ps_dput (hu_of hr) (pv 0) pe_str pe_str (by rfl))
    (pss_cons (ps_for PassesOwn.never rfl (pi_tup (pe_tup (pa_cons pe_str (pa_cons pe_str pa_nil)))) (pg_name (i := 1) scTb.nd rfl (.inl rfl)) (pss_one (ps_dput (hu_of hr) (pv 0) (pv 1) pe_str (by rfl))))
    (pss_cons (ps_for PassesOwn.never rfl (pi_tup (pe_tup (pa_cons pe_str (pa_cons pe_str pa_nil)))) (pg_name (i := 1) scTb.nd rfl (.inl rfl)) (pss_one (ps_dput (hu_of hr) (pv 0) (pv 1) pe_str (by rfl))))
    (pss_cons (ps_for PassesOwn.never rfl (pi_tup (pe_tup (pa_cons pe_str (pa_cons pe_str pa_nil)))) (pg_name (i := 1) scTb.nd rfl (.inl rfl)) (pss_one (ps_dput (hu_of hr) (pv 0) (pv 1) pe_str (by rfl))))
    (pss_cons (ps_expr (pe_bm PySem.F.plainAttrs_dict PySem.F.slot_dict_update PySem.F.type_dict_update mt_update (pv 0) (pa_cons (pe_disp (pps_cons pe_str pe_str (pps_cons pe_str pe_str pps_nil)) (by rfl) (by rfl) (fun z => by cases z) (by decide)) pa_nil)))
    (pss_cons (ps_expr (pe_bm PySem.F.plainAttrs_dict PySem.F.slot_dict_update PySem.F.type_dict_update mt_update (pv 0) (pa_cons (pe_disp (pps_cons pe_str pe_str (pps_cons pe_str pe_str pps_nil)) (by rfl) (by rfl) (fun z => by cases z) (by decide)) pa_nil)))
    (pss_cons (ps_expr (pe_bm PySem.F.plainAttrs_dict PySem.F.slot_dict_update PySem.F.type_dict_update mt_update (pv 0) (pa_cons (pe_disp (pps_cons pe_str pe_str pps_nil) (by rfl) (by rfl) (fun z => by cases z) (by decide)) pa_nil)))
    (pss_cons (ps_expr (pe_bm PySem.F.plainAttrs_dict PySem.F.slot_dict_update PySem.F.type_dict_update mt_update (pv 0) (pa_cons (pe_disp (pps_cons pe_str pe_str (pps_cons pe_str pe_str pps_nil)) (by rfl) (by rfl) (fun z => by cases z) (by decide)) pa_nil)))
    (pss_cons (ps_expr (pe_bm PySem.F.plainAttrs_dict PySem.F.slot_dict_update PySem.F.type_dict_update mt_update (pv 0) (pa_cons (pe_disp (pps_cons pe_str pe_str (pps_cons pe_str pe_str (pps_cons pe_str pe_str pps_nil))) (by rfl) (by rfl) (fun z => by cases z) (by decide)) pa_nil)))
    (pss_cons (ps_expr (pe_bm PySem.F.plainAttrs_dict PySem.F.slot_dict_update PySem.F.type_dict_update mt_update (pv 0) (pa_cons (pe_disp (pps_cons pe_str pe_str (pps_cons pe_str pe_str (pps_cons pe_str pe_str pps_nil))) (by rfl) (by rfl) (fun z => by cases z) (by decide)) pa_nil)))
    (pss_cons (ps_expr (pe_bm PySem.F.plainAttrs_dict PySem.F.slot_dict_update PySem.F.type_dict_update mt_update (pv 0) (pa_cons (pe_disp (pps_cons pe_str pe_str (pps_cons pe_str pe_str (pps_cons pe_str pe_str pps_nil))) (by rfl) (by rfl) (fun z => by cases z) (by decide)) pa_nil)))
    (pss_cons (ps_expr (pe_bm PySem.F.plainAttrs_dict PySem.F.slot_dict_update PySem.F.type_dict_update mt_update (pv 0) (pa_cons (pe_disp (pps_cons pe_str pe_str (pps_cons pe_str pe_str (pps_cons pe_str pe_str (pps_cons pe_str pe_str pps_nil)))) (by rfl) (by rfl) (fun z => by cases z) (by decide)) pa_nil)))
    (pss_cons (ps_expr (pe_bm PySem.F.plainAttrs_dict PySem.F.slot_dict_update PySem.F.type_dict_update mt_update (pv 0) (pa_cons (pe_disp (pps_cons pe_str pe_str (pps_cons pe_str pe_str pps_nil)) (by rfl) (by rfl) (fun z => by cases z) (by decide)) pa_nil)))
    (pss_cons (ps_expr (pe_bm PySem.F.plainAttrs_dict PySem.F.slot_dict_update PySem.F.type_dict_update mt_update (pv 0) (pa_cons (pe_disp (pps_cons pe_str pe_str (pps_cons pe_str pe_str (pps_cons pe_str pe_str pps_nil))) (by rfl) (by rfl) (fun z => by cases z) (by decide)) pa_nil)))
    (pss_cons (ps_expr (pe_bm PySem.F.plainAttrs_dict PySem.F.slot_dict_update PySem.F.type_dict_update mt_update (pv 0) (pa_cons (pe_disp (pps_cons pe_str pe_str (pps_cons pe_str pe_str pps_nil)) (by rfl) (by rfl) (fun z => by cases z) (by decide)) pa_nil)))
    (pss_cons (ps_expr (pe_bm PySem.F.plainAttrs_dict PySem.F.slot_dict_update PySem.F.type_dict_update mt_update (pv 0) (pa_cons (pe_disp (pps_cons pe_str pe_str pps_nil) (by rfl) (by rfl) (fun z => by cases z) (by decide)) pa_nil)))
    (pss_cons (ps_expr (pe_bm PySem.F.plainAttrs_dict PySem.F.slot_dict_update PySem.F.type_dict_update mt_update (pv 0) (pa_cons (pe_disp (pps_cons pe_str pe_str (pps_cons pe_str pe_str pps_nil)) (by rfl) (by rfl) (fun z => by cases z) (by decide)) pa_nil)))
    (pss_cons (ps_for PassesOwn.never rfl (pi_tup (pe_tup (pa_cons pe_str (pa_cons pe_str (pa_cons pe_str pa_nil))))) (pg_name (i := 1) scTb.nd rfl (.inl rfl)) (pss_one (ps_dput (hu_of hr) (pv 0) (pv 1) pe_str (by rfl))))
    (pss_cons (ps_expr (pe_bm PySem.F.plainAttrs_dict PySem.F.slot_dict_update PySem.F.type_dict_update mt_update (pv 0) (pa_cons (pe_disp (pps_cons pe_str pe_str (pps_cons pe_str pe_str pps_nil)) (by rfl) (by rfl) (fun z => by cases z) (by decide)) pa_nil)))
    (pss_cons (ps_expr (pe_bm PySem.F.plainAttrs_dict PySem.F.slot_dict_update PySem.F.type_dict_update mt_update (pv 0) (pa_cons (pe_disp (pps_cons pe_str pe_str (pps_cons pe_str pe_str pps_nil)) (by rfl) (by rfl) (fun z => by cases z) (by decide)) pa_nil)))
    (pss_cons (ps_expr (pe_bm PySem.F.plainAttrs_dict PySem.F.slot_dict_update PySem.F.type_dict_update mt_update (pv 0) (pa_cons (pe_disp (pps_cons pe_str pe_str (pps_cons pe_str pe_str pps_nil)) (by rfl) (by rfl) (fun z => by cases z) (by decide)) pa_nil)))
    (pss_cons (ps_dput (hu_of hr) (pv 0) pe_str pe_str (by rfl))
    (pss_cons (ps_dput (hu_of hr) (pv 0) pe_str (pe_op op_add_str (pe_dget (hu_of hr) (pv 0) pe_str (fun _ _ => rfl)) pe_str) (by rfl))
    (pss_cons (ps_expr (pe_bm PySem.F.plainAttrs_dict PySem.F.slot_dict_update PySem.F.type_dict_update mt_update (pv 0) (pa_cons (pe_disp (pps_cons pe_str pe_str pps_nil) (by rfl) (by rfl) (fun z => by cases z) (by decide)) pa_nil)))
    (pss_cons (ps_expr (pe_bm PySem.F.plainAttrs_dict PySem.F.slot_dict_update PySem.F.type_dict_update mt_update (pv 0) (pa_cons (pe_call0 PT hr (by rfl) mPT kPT bPT .nil pass0) pa_nil)))
    (pss_one (ps_ret (pv 0))))))))))))))))))))))))))))))))), ?_⟩
  refine fun p np => ⟨upd_same, kvOf TbR0, rfl, by decide, ?_⟩
  have t0 : Tab H _ p TbT0 := Tab.new (B := TbR0) np
  generalize upd (upd H p (.dK [])) p (.dK (mergeK [] (kvOf TbR0))) = H0 at t0 ⊢
  refine ⟨by show 2 ≤ sizeLine; decide, fun tu1 ntu1 => ⟨tu1, rfl, ⟨_, SqT.of upd_same⟩, ?_⟩⟩
  have u1 : Tab H (upd H0 tu1 (.tup [.str "FunctionDef", .str "AsyncFunctionDef"])) p TbT0 := t0.up (same_new ntu1)
  have hU1 : (upd H0 tu1 (.tup [.str "FunctionDef", .str "AsyncFunctionDef"])) tu1 = some (.tup [.str "FunctionDef", .str "AsyncFunctionDef"]) := upd_same
  generalize upd H0 tu1 (.tup [.str "FunctionDef", .str "AsyncFunctionDef"]) = G1 at u1 hU1 ⊢
  have nU1 : tu1 ≠ p := fun z => by rw [z, u1.at_] at hU1; cases hU1
  refine for_tup (K := K) (a := tu1) (xs := [.str "FunctionDef", .str "AsyncFunctionDef"]) (fun i σ H' => ∃ y, σ = [some (.ref p), y] ∧ Tab H H' p ((fun j : Nat => match j with | 0 => TbT0 | 1 => putR (TbT0) "FunctionDef" "name N;args arguments;body S+;decorator_list E*;returns E?" | _ => TbT1) i) ∧ ∀ b o, b ≠ p → G1 b = some o → H' b = some o) ⟨_, rfl, u1, fun b o _ e => e⟩ (fun i σ H' _ ⟨_, _, _, k⟩ => SqT.of (k _ _ nU1 hU1)) ?_ ?_
  · rintro i x σ H' hx ⟨y, rfl, t', k'⟩
    obtain ⟨kd, rfl, eR, hlen⟩ : ∃ kd : Str, x = .str kd ∧ (fun j : Nat => match j with | 0 => TbT0 | 1 => putR (TbT0) "FunctionDef" "name N;args arguments;body S+;decorator_list E*;returns E?" | _ => TbT1) (i + 1) = putR ((fun j : Nat => match j with | 0 => TbT0 | 1 => putR (TbT0) "FunctionDef" "name N;args arguments;body S+;decorator_list E*;returns E?" | _ => TbT1) i) kd "name N;args arguments;body S+;decorator_list E*;returns E?" ∧ ((fun j : Nat => match j with | 0 => TbT0 | 1 => putR (TbT0) "FunctionDef" "name N;args arguments;body S+;decorator_list E*;returns E?" | _ => TbT1) i).length < 1000 := by
      rcases i with _ | _ | i
      · cases hx; exact ⟨"FunctionDef", rfl, rfl, by decide +kernel⟩
      · cases hx; exact ⟨"AsyncFunctionDef", rfl, rfl, by decide +kernel⟩
      · simp at hx
    refine ⟨_, rfl, _, rfl, p, _, rfl, t'.dput hlen, _, rfl, by rw [eR]; exact t'.put, fun b o nb e => ?_⟩
    rw [upd_ne nb]; exact k' b o nb e
  rintro σ H1 ⟨y1, rfl, t1, _⟩
  have t1 : Tab H H1 p TbT1 := t1
  refine ⟨_, rfl, .inr (.inr (.inl ⟨rfl, .inl ⟨_, t1.at_⟩⟩)), fun p2 np2 => ?_⟩
  have n2 : p ≠ p2 := ne_of_none t1.at_ np2
  refine ⟨upd_same, kvOf TbR2, rfl, by decide, p, p2, _, _, rfl, rfl, n2, by rw [upd_ne n2, upd_ne n2]; exact t1.at_, upd_same, len_ok _ _ (by decide +kernel), ?_⟩
  have t2 : Tab H _ p TbT2 := t1.upd (B := TbR2) np2
  generalize upd (upd (upd H1 p2 (.dK [])) p2 (.dK (mergeK [] (kvOf TbR2)))) p (.dK (mergeK (kvOf TbT1) (mergeK [] (kvOf TbR2)))) = H2 at t2 ⊢
  refine ⟨_, rfl, p, _, rfl, t2.dput (by decide +kernel), ?_⟩
  have t3 : Tab H _ p TbT3 := t2.put (k := "Delete") (v := "targets E+")
  generalize upd H2 p (.dK (putK (kvOf TbT2) (.inr "Delete") (.str "targets E+"))) = H3 at t3 ⊢
  refine ⟨_, rfl, .inr (.inr (.inl ⟨rfl, .inl ⟨_, t3.at_⟩⟩)), fun p4 np4 => ?_⟩
  have n4 : p ≠ p4 := ne_of_none t3.at_ np4
  refine ⟨upd_same, kvOf TbR4, rfl, by decide, p, p4, _, _, rfl, rfl, n4, by rw [upd_ne n4, upd_ne n4]; exact t3.at_, upd_same, len_ok _ _ (by decide +kernel), ?_⟩
  have t4 : Tab H _ p TbT4 := t3.upd (B := TbR4) np4
  generalize upd (upd (upd H3 p4 (.dK [])) p4 (.dK (mergeK [] (kvOf TbR4)))) p (.dK (mergeK (kvOf TbT3) (mergeK [] (kvOf TbR4)))) = H4 at t4 ⊢
  refine ⟨_, rfl, .inr (.inr (.inl ⟨rfl, .inl ⟨_, t4.at_⟩⟩)), fun p5 np5 => ?_⟩
  have n5 : p ≠ p5 := ne_of_none t4.at_ np5
  refine ⟨upd_same, kvOf TbR5, rfl, by decide, p, p5, _, _, rfl, rfl, n5, by rw [upd_ne n5, upd_ne n5]; exact t4.at_, upd_same, len_ok _ _ (by decide +kernel), ?_⟩
  have t5 : Tab H _ p TbT5 := t4.upd (B := TbR5) np5
  generalize upd (upd (upd H4 p5 (.dK [])) p5 (.dK (mergeK [] (kvOf TbR5)))) p (.dK (mergeK (kvOf TbT4) (mergeK [] (kvOf TbR5)))) = H5 at t5 ⊢
  refine ⟨_, rfl, p, _, rfl, t5.dput (by decide +kernel), ?_⟩
  have t6 : Tab H _ p TbT6 := t5.put (k := "Assert") (v := "test E;msg E?")
  generalize upd H5 p (.dK (putK (kvOf TbT5) (.inr "Assert") (.str "test E;msg E?"))) = H6 at t6 ⊢
  refine ⟨by show 2 ≤ sizeLine; decide, fun tu7 ntu7 => ⟨tu7, rfl, ⟨_, SqT.of upd_same⟩, ?_⟩⟩
  have u7 : Tab H (upd H6 tu7 (.tup [.str "For", .str "AsyncFor"])) p TbT6 := t6.up (same_new ntu7)
  have hU7 : (upd H6 tu7 (.tup [.str "For", .str "AsyncFor"])) tu7 = some (.tup [.str "For", .str "AsyncFor"]) := upd_same
  generalize upd H6 tu7 (.tup [.str "For", .str "AsyncFor"]) = G7 at u7 hU7 ⊢
  have nU7 : tu7 ≠ p := fun z => by rw [z, u7.at_] at hU7; cases hU7
  refine for_tup (K := K) (a := tu7) (xs := [.str "For", .str "AsyncFor"]) (fun i σ H' => ∃ y, σ = [some (.ref p), y] ∧ Tab H H' p ((fun j : Nat => match j with | 0 => TbT6 | 1 => putR (TbT6) "For" "target E;iter E;body S+;orelse S*" | _ => TbT7) i) ∧ ∀ b o, b ≠ p → G7 b = some o → H' b = some o) ⟨_, rfl, u7, fun b o _ e => e⟩ (fun i σ H' _ ⟨_, _, _, k⟩ => SqT.of (k _ _ nU7 hU7)) ?_ ?_
  · rintro i x σ H' hx ⟨y, rfl, t', k'⟩
    obtain ⟨kd, rfl, eR, hlen⟩ : ∃ kd : Str, x = .str kd ∧ (fun j : Nat => match j with | 0 => TbT6 | 1 => putR (TbT6) "For" "target E;iter E;body S+;orelse S*" | _ => TbT7) (i + 1) = putR ((fun j : Nat => match j with | 0 => TbT6 | 1 => putR (TbT6) "For" "target E;iter E;body S+;orelse S*" | _ => TbT7) i) kd "target E;iter E;body S+;orelse S*" ∧ ((fun j : Nat => match j with | 0 => TbT6 | 1 => putR (TbT6) "For" "target E;iter E;body S+;orelse S*" | _ => TbT7) i).length < 1000 := by
      rcases i with _ | _ | i
      · cases hx; exact ⟨"For", rfl, rfl, by decide +kernel⟩
      · cases hx; exact ⟨"AsyncFor", rfl, rfl, by decide +kernel⟩
      · simp at hx
    refine ⟨_, rfl, _, rfl, p, _, rfl, t'.dput hlen, _, rfl, by rw [eR]; exact t'.put, fun b o nb e => ?_⟩
    rw [upd_ne nb]; exact k' b o nb e
  rintro σ H7 ⟨y7, rfl, t7, _⟩
  have t7 : Tab H H7 p TbT7 := t7
  refine ⟨by show 2 ≤ sizeLine; decide, fun tu8 ntu8 => ⟨tu8, rfl, ⟨_, SqT.of upd_same⟩, ?_⟩⟩
  have u8 : Tab H (upd H7 tu8 (.tup [.str "With", .str "AsyncWith"])) p TbT7 := t7.up (same_new ntu8)
  have hU8 : (upd H7 tu8 (.tup [.str "With", .str "AsyncWith"])) tu8 = some (.tup [.str "With", .str "AsyncWith"]) := upd_same
  generalize upd H7 tu8 (.tup [.str "With", .str "AsyncWith"]) = G8 at u8 hU8 ⊢
  have nU8 : tu8 ≠ p := fun z => by rw [z, u8.at_] at hU8; cases hU8
  refine for_tup (K := K) (a := tu8) (xs := [.str "With", .str "AsyncWith"]) (fun i σ H' => ∃ y, σ = [some (.ref p), y] ∧ Tab H H' p ((fun j : Nat => match j with | 0 => TbT7 | 1 => putR (TbT7) "With" "items withitem+;body S+" | _ => TbT8) i) ∧ ∀ b o, b ≠ p → G8 b = some o → H' b = some o) ⟨_, rfl, u8, fun b o _ e => e⟩ (fun i σ H' _ ⟨_, _, _, k⟩ => SqT.of (k _ _ nU8 hU8)) ?_ ?_
  · rintro i x σ H' hx ⟨y, rfl, t', k'⟩
    obtain ⟨kd, rfl, eR, hlen⟩ : ∃ kd : Str, x = .str kd ∧ (fun j : Nat => match j with | 0 => TbT7 | 1 => putR (TbT7) "With" "items withitem+;body S+" | _ => TbT8) (i + 1) = putR ((fun j : Nat => match j with | 0 => TbT7 | 1 => putR (TbT7) "With" "items withitem+;body S+" | _ => TbT8) i) kd "items withitem+;body S+" ∧ ((fun j : Nat => match j with | 0 => TbT7 | 1 => putR (TbT7) "With" "items withitem+;body S+" | _ => TbT8) i).length < 1000 := by
      rcases i with _ | _ | i
      · cases hx; exact ⟨"With", rfl, rfl, by decide +kernel⟩
      · cases hx; exact ⟨"AsyncWith", rfl, rfl, by decide +kernel⟩
      · simp at hx
    refine ⟨_, rfl, _, rfl, p, _, rfl, t'.dput hlen, _, rfl, by rw [eR]; exact t'.put, fun b o nb e => ?_⟩
    rw [upd_ne nb]; exact k' b o nb e
  rintro σ H8 ⟨y8, rfl, t8, _⟩
  have t8 : Tab H H8 p TbT8 := t8
  refine ⟨by show 2 ≤ sizeLine; decide, fun tu9 ntu9 => ⟨tu9, rfl, ⟨_, SqT.of upd_same⟩, ?_⟩⟩
  have u9 : Tab H (upd H8 tu9 (.tup [.str "While", .str "If"])) p TbT8 := t8.up (same_new ntu9)
  have hU9 : (upd H8 tu9 (.tup [.str "While", .str "If"])) tu9 = some (.tup [.str "While", .str "If"]) := upd_same
  generalize upd H8 tu9 (.tup [.str "While", .str "If"]) = G9 at u9 hU9 ⊢
  have nU9 : tu9 ≠ p := fun z => by rw [z, u9.at_] at hU9; cases hU9
  refine for_tup (K := K) (a := tu9) (xs := [.str "While", .str "If"]) (fun i σ H' => ∃ y, σ = [some (.ref p), y] ∧ Tab H H' p ((fun j : Nat => match j with | 0 => TbT8 | 1 => putR (TbT8) "While" "test E;body S+;orelse S*" | _ => TbT9) i) ∧ ∀ b o, b ≠ p → G9 b = some o → H' b = some o) ⟨_, rfl, u9, fun b o _ e => e⟩ (fun i σ H' _ ⟨_, _, _, k⟩ => SqT.of (k _ _ nU9 hU9)) ?_ ?_
  · rintro i x σ H' hx ⟨y, rfl, t', k'⟩
    obtain ⟨kd, rfl, eR, hlen⟩ : ∃ kd : Str, x = .str kd ∧ (fun j : Nat => match j with | 0 => TbT8 | 1 => putR (TbT8) "While" "test E;body S+;orelse S*" | _ => TbT9) (i + 1) = putR ((fun j : Nat => match j with | 0 => TbT8 | 1 => putR (TbT8) "While" "test E;body S+;orelse S*" | _ => TbT9) i) kd "test E;body S+;orelse S*" ∧ ((fun j : Nat => match j with | 0 => TbT8 | 1 => putR (TbT8) "While" "test E;body S+;orelse S*" | _ => TbT9) i).length < 1000 := by
      rcases i with _ | _ | i
      · cases hx; exact ⟨"While", rfl, rfl, by decide +kernel⟩
      · cases hx; exact ⟨"If", rfl, rfl, by decide +kernel⟩
      · simp at hx
    refine ⟨_, rfl, _, rfl, p, _, rfl, t'.dput hlen, _, rfl, by rw [eR]; exact t'.put, fun b o nb e => ?_⟩
    rw [upd_ne nb]; exact k' b o nb e
  rintro σ H9 ⟨y9, rfl, t9, _⟩
  have t9 : Tab H H9 p TbT9 := t9
  refine ⟨_, rfl, .inr (.inr (.inl ⟨rfl, .inl ⟨_, t9.at_⟩⟩)), fun p10 np10 => ?_⟩
  have n10 : p ≠ p10 := ne_of_none t9.at_ np10
  refine ⟨upd_same, kvOf TbR10, rfl, by decide, p, p10, _, _, rfl, rfl, n10, by rw [upd_ne n10, upd_ne n10]; exact t9.at_, upd_same, len_ok _ _ (by decide +kernel), ?_⟩
  have t10 : Tab H _ p TbT10 := t9.upd (B := TbR10) np10
  generalize upd (upd (upd H9 p10 (.dK [])) p10 (.dK (mergeK [] (kvOf TbR10)))) p (.dK (mergeK (kvOf TbT9) (mergeK [] (kvOf TbR10)))) = H10 at t10 ⊢
  refine ⟨_, rfl, .inr (.inr (.inl ⟨rfl, .inl ⟨_, t10.at_⟩⟩)), fun p11 np11 => ?_⟩
  have n11 : p ≠ p11 := ne_of_none t10.at_ np11
  refine ⟨upd_same, kvOf TbR11, rfl, by decide, p, p11, _, _, rfl, rfl, n11, by rw [upd_ne n11, upd_ne n11]; exact t10.at_, upd_same, len_ok _ _ (by decide +kernel), ?_⟩
  have t11 : Tab H _ p TbT11 := t10.upd (B := TbR11) np11
  generalize upd (upd (upd H10 p11 (.dK [])) p11 (.dK (mergeK [] (kvOf TbR11)))) p (.dK (mergeK (kvOf TbT10) (mergeK [] (kvOf TbR11)))) = H11 at t11 ⊢
  refine ⟨_, rfl, .inr (.inr (.inl ⟨rfl, .inl ⟨_, t11.at_⟩⟩)), fun p12 np12 => ?_⟩
  have n12 : p ≠ p12 := ne_of_none t11.at_ np12
  refine ⟨upd_same, kvOf TbR12, rfl, by decide, p, p12, _, _, rfl, rfl, n12, by rw [upd_ne n12, upd_ne n12]; exact t11.at_, upd_same, len_ok _ _ (by decide +kernel), ?_⟩
  have t12 : Tab H _ p TbT12 := t11.upd (B := TbR12) np12
  generalize upd (upd (upd H11 p12 (.dK [])) p12 (.dK (mergeK [] (kvOf TbR12)))) p (.dK (mergeK (kvOf TbT11) (mergeK [] (kvOf TbR12)))) = H12 at t12 ⊢
  refine ⟨_, rfl, .inr (.inr (.inl ⟨rfl, .inl ⟨_, t12.at_⟩⟩)), fun p13 np13 => ?_⟩
  have n13 : p ≠ p13 := ne_of_none t12.at_ np13
  refine ⟨upd_same, kvOf TbR13, rfl, by decide, p, p13, _, _, rfl, rfl, n13, by rw [upd_ne n13, upd_ne n13]; exact t12.at_, upd_same, len_ok _ _ (by decide +kernel), ?_⟩
  have t13 : Tab H _ p TbT13 := t12.upd (B := TbR13) np13
  generalize upd (upd (upd H12 p13 (.dK [])) p13 (.dK (mergeK [] (kvOf TbR13)))) p (.dK (mergeK (kvOf TbT12) (mergeK [] (kvOf TbR13)))) = H13 at t13 ⊢
  refine ⟨_, rfl, .inr (.inr (.inl ⟨rfl, .inl ⟨_, t13.at_⟩⟩)), fun p14 np14 => ?_⟩
  have n14 : p ≠ p14 := ne_of_none t13.at_ np14
  refine ⟨upd_same, kvOf TbR14, rfl, by decide, p, p14, _, _, rfl, rfl, n14, by rw [upd_ne n14, upd_ne n14]; exact t13.at_, upd_same, len_ok _ _ (by decide +kernel), ?_⟩
  have t14 : Tab H _ p TbT14 := t13.upd (B := TbR14) np14
  generalize upd (upd (upd H13 p14 (.dK [])) p14 (.dK (mergeK [] (kvOf TbR14)))) p (.dK (mergeK (kvOf TbT13) (mergeK [] (kvOf TbR14)))) = H14 at t14 ⊢
  refine ⟨_, rfl, .inr (.inr (.inl ⟨rfl, .inl ⟨_, t14.at_⟩⟩)), fun p15 np15 => ?_⟩
  have n15 : p ≠ p15 := ne_of_none t14.at_ np15
  refine ⟨upd_same, kvOf TbR15, rfl, by decide, p, p15, _, _, rfl, rfl, n15, by rw [upd_ne n15, upd_ne n15]; exact t14.at_, upd_same, len_ok _ _ (by decide +kernel), ?_⟩
  have t15 : Tab H _ p TbT15 := t14.upd (B := TbR15) np15
  generalize upd (upd (upd H14 p15 (.dK [])) p15 (.dK (mergeK [] (kvOf TbR15)))) p (.dK (mergeK (kvOf TbT14) (mergeK [] (kvOf TbR15)))) = H15 at t15 ⊢
  refine ⟨_, rfl, .inr (.inr (.inl ⟨rfl, .inl ⟨_, t15.at_⟩⟩)), fun p16 np16 => ?_⟩
  have n16 : p ≠ p16 := ne_of_none t15.at_ np16
  refine ⟨upd_same, kvOf TbR16, rfl, by decide, p, p16, _, _, rfl, rfl, n16, by rw [upd_ne n16, upd_ne n16]; exact t15.at_, upd_same, len_ok _ _ (by decide +kernel), ?_⟩
  have t16 : Tab H _ p TbT16 := t15.upd (B := TbR16) np16
  generalize upd (upd (upd H15 p16 (.dK [])) p16 (.dK (mergeK [] (kvOf TbR16)))) p (.dK (mergeK (kvOf TbT15) (mergeK [] (kvOf TbR16)))) = H16 at t16 ⊢
  refine ⟨_, rfl, .inr (.inr (.inl ⟨rfl, .inl ⟨_, t16.at_⟩⟩)), fun p17 np17 => ?_⟩
  have n17 : p ≠ p17 := ne_of_none t16.at_ np17
  refine ⟨upd_same, kvOf TbR17, rfl, by decide, p, p17, _, _, rfl, rfl, n17, by rw [upd_ne n17, upd_ne n17]; exact t16.at_, upd_same, len_ok _ _ (by decide +kernel), ?_⟩
  have t17 : Tab H _ p TbT17 := t16.upd (B := TbR17) np17
  generalize upd (upd (upd H16 p17 (.dK [])) p17 (.dK (mergeK [] (kvOf TbR17)))) p (.dK (mergeK (kvOf TbT16) (mergeK [] (kvOf TbR17)))) = H17 at t17 ⊢
  refine ⟨_, rfl, .inr (.inr (.inl ⟨rfl, .inl ⟨_, t17.at_⟩⟩)), fun p18 np18 => ?_⟩
  have n18 : p ≠ p18 := ne_of_none t17.at_ np18
  refine ⟨upd_same, kvOf TbR18, rfl, by decide, p, p18, _, _, rfl, rfl, n18, by rw [upd_ne n18, upd_ne n18]; exact t17.at_, upd_same, len_ok _ _ (by decide +kernel), ?_⟩
  have t18 : Tab H _ p TbT18 := t17.upd (B := TbR18) np18
  generalize upd (upd (upd H17 p18 (.dK [])) p18 (.dK (mergeK [] (kvOf TbR18)))) p (.dK (mergeK (kvOf TbT17) (mergeK [] (kvOf TbR18)))) = H18 at t18 ⊢
  refine ⟨_, rfl, .inr (.inr (.inl ⟨rfl, .inl ⟨_, t18.at_⟩⟩)), fun p19 np19 => ?_⟩
  have n19 : p ≠ p19 := ne_of_none t18.at_ np19
  refine ⟨upd_same, kvOf TbR19, rfl, by decide, p, p19, _, _, rfl, rfl, n19, by rw [upd_ne n19, upd_ne n19]; exact t18.at_, upd_same, len_ok _ _ (by decide +kernel), ?_⟩
  have t19 : Tab H _ p TbT19 := t18.upd (B := TbR19) np19
  generalize upd (upd (upd H18 p19 (.dK [])) p19 (.dK (mergeK [] (kvOf TbR19)))) p (.dK (mergeK (kvOf TbT18) (mergeK [] (kvOf TbR19)))) = H19 at t19 ⊢
  refine ⟨_, rfl, .inr (.inr (.inl ⟨rfl, .inl ⟨_, t19.at_⟩⟩)), fun p20 np20 => ?_⟩
  have n20 : p ≠ p20 := ne_of_none t19.at_ np20
  refine ⟨upd_same, kvOf TbR20, rfl, by decide, p, p20, _, _, rfl, rfl, n20, by rw [upd_ne n20, upd_ne n20]; exact t19.at_, upd_same, len_ok _ _ (by decide +kernel), ?_⟩
  have t20 : Tab H _ p TbT20 := t19.upd (B := TbR20) np20
  generalize upd (upd (upd H19 p20 (.dK [])) p20 (.dK (mergeK [] (kvOf TbR20)))) p (.dK (mergeK (kvOf TbT19) (mergeK [] (kvOf TbR20)))) = H20 at t20 ⊢
  refine ⟨_, rfl, .inr (.inr (.inl ⟨rfl, .inl ⟨_, t20.at_⟩⟩)), fun p21 np21 => ?_⟩
  have n21 : p ≠ p21 := ne_of_none t20.at_ np21
  refine ⟨upd_same, kvOf TbR21, rfl, by decide, p, p21, _, _, rfl, rfl, n21, by rw [upd_ne n21, upd_ne n21]; exact t20.at_, upd_same, len_ok _ _ (by decide +kernel), ?_⟩
  have t21 : Tab H _ p TbT21 := t20.upd (B := TbR21) np21
  generalize upd (upd (upd H20 p21 (.dK [])) p21 (.dK (mergeK [] (kvOf TbR21)))) p (.dK (mergeK (kvOf TbT20) (mergeK [] (kvOf TbR21)))) = H21 at t21 ⊢
  refine ⟨_, rfl, .inr (.inr (.inl ⟨rfl, .inl ⟨_, t21.at_⟩⟩)), fun p22 np22 => ?_⟩
  have n22 : p ≠ p22 := ne_of_none t21.at_ np22
  refine ⟨upd_same, kvOf TbR22, rfl, by decide, p, p22, _, _, rfl, rfl, n22, by rw [upd_ne n22, upd_ne n22]; exact t21.at_, upd_same, len_ok _ _ (by decide +kernel), ?_⟩
  have t22 : Tab H _ p TbT22 := t21.upd (B := TbR22) np22
  generalize upd (upd (upd H21 p22 (.dK [])) p22 (.dK (mergeK [] (kvOf TbR22)))) p (.dK (mergeK (kvOf TbT21) (mergeK [] (kvOf TbR22)))) = H22 at t22 ⊢
  refine ⟨by show 3 ≤ sizeLine; decide, fun tu23 ntu23 => ⟨tu23, rfl, ⟨_, SqT.of upd_same⟩, ?_⟩⟩
  have u23 : Tab H (upd H22 tu23 (.tup [.str "ListComp", .str "SetComp", .str "GeneratorExp"])) p TbT22 := t22.up (same_new ntu23)
  have hU23 : (upd H22 tu23 (.tup [.str "ListComp", .str "SetComp", .str "GeneratorExp"])) tu23 = some (.tup [.str "ListComp", .str "SetComp", .str "GeneratorExp"]) := upd_same
  generalize upd H22 tu23 (.tup [.str "ListComp", .str "SetComp", .str "GeneratorExp"]) = G23 at u23 hU23 ⊢
  have nU23 : tu23 ≠ p := fun z => by rw [z, u23.at_] at hU23; cases hU23
  refine for_tup (K := K) (a := tu23) (xs := [.str "ListComp", .str "SetComp", .str "GeneratorExp"]) (fun i σ H' => ∃ y, σ = [some (.ref p), y] ∧ Tab H H' p ((fun j : Nat => match j with | 0 => TbT22 | 1 => putR (TbT22) "ListComp" "elt E;generators comprehension+" | 2 => putR (putR (TbT22) "ListComp" "elt E;generators comprehension+") "SetComp" "elt E;generators comprehension+" | _ => TbT23) i) ∧ ∀ b o, b ≠ p → G23 b = some o → H' b = some o) ⟨_, rfl, u23, fun b o _ e => e⟩ (fun i σ H' _ ⟨_, _, _, k⟩ => SqT.of (k _ _ nU23 hU23)) ?_ ?_
  · rintro i x σ H' hx ⟨y, rfl, t', k'⟩
    obtain ⟨kd, rfl, eR, hlen⟩ : ∃ kd : Str, x = .str kd ∧ (fun j : Nat => match j with | 0 => TbT22 | 1 => putR (TbT22) "ListComp" "elt E;generators comprehension+" | 2 => putR (putR (TbT22) "ListComp" "elt E;generators comprehension+") "SetComp" "elt E;generators comprehension+" | _ => TbT23) (i + 1) = putR ((fun j : Nat => match j with | 0 => TbT22 | 1 => putR (TbT22) "ListComp" "elt E;generators comprehension+" | 2 => putR (putR (TbT22) "ListComp" "elt E;generators comprehension+") "SetComp" "elt E;generators comprehension+" | _ => TbT23) i) kd "elt E;generators comprehension+" ∧ ((fun j : Nat => match j with | 0 => TbT22 | 1 => putR (TbT22) "ListComp" "elt E;generators comprehension+" | 2 => putR (putR (TbT22) "ListComp" "elt E;generators comprehension+") "SetComp" "elt E;generators comprehension+" | _ => TbT23) i).length < 1000 := by
      rcases i with _ | _ | _ | i
      · cases hx; exact ⟨"ListComp", rfl, rfl, by decide +kernel⟩
      · cases hx; exact ⟨"SetComp", rfl, rfl, by decide +kernel⟩
      · cases hx; exact ⟨"GeneratorExp", rfl, rfl, by decide +kernel⟩
      · simp at hx
    refine ⟨_, rfl, _, rfl, p, _, rfl, t'.dput hlen, _, rfl, by rw [eR]; exact t'.put, fun b o nb e => ?_⟩
    rw [upd_ne nb]; exact k' b o nb e
  rintro σ H23 ⟨y23, rfl, t23, _⟩
  have t23 : Tab H H23 p TbT23 := t23
  refine ⟨_, rfl, .inr (.inr (.inl ⟨rfl, .inl ⟨_, t23.at_⟩⟩)), fun p24 np24 => ?_⟩
  have n24 : p ≠ p24 := ne_of_none t23.at_ np24
  refine ⟨upd_same, kvOf TbR24, rfl, by decide, p, p24, _, _, rfl, rfl, n24, by rw [upd_ne n24, upd_ne n24]; exact t23.at_, upd_same, len_ok _ _ (by decide +kernel), ?_⟩
  have t24 : Tab H _ p TbT24 := t23.upd (B := TbR24) np24
  generalize upd (upd (upd H23 p24 (.dK [])) p24 (.dK (mergeK [] (kvOf TbR24)))) p (.dK (mergeK (kvOf TbT23) (mergeK [] (kvOf TbR24)))) = H24 at t24 ⊢
  refine ⟨_, rfl, .inr (.inr (.inl ⟨rfl, .inl ⟨_, t24.at_⟩⟩)), fun p25 np25 => ?_⟩
  have n25 : p ≠ p25 := ne_of_none t24.at_ np25
  refine ⟨upd_same, kvOf TbR25, rfl, by decide, p, p25, _, _, rfl, rfl, n25, by rw [upd_ne n25, upd_ne n25]; exact t24.at_, upd_same, len_ok _ _ (by decide +kernel), ?_⟩
  have t25 : Tab H _ p TbT25 := t24.upd (B := TbR25) np25
  generalize upd (upd (upd H24 p25 (.dK [])) p25 (.dK (mergeK [] (kvOf TbR25)))) p (.dK (mergeK (kvOf TbT24) (mergeK [] (kvOf TbR25)))) = H25 at t25 ⊢
  refine ⟨_, rfl, .inr (.inr (.inl ⟨rfl, .inl ⟨_, t25.at_⟩⟩)), fun p26 np26 => ?_⟩
  have n26 : p ≠ p26 := ne_of_none t25.at_ np26
  refine ⟨upd_same, kvOf TbR26, rfl, by decide, p, p26, _, _, rfl, rfl, n26, by rw [upd_ne n26, upd_ne n26]; exact t25.at_, upd_same, len_ok _ _ (by decide +kernel), ?_⟩
  have t26 : Tab H _ p TbT26 := t25.upd (B := TbR26) np26
  generalize upd (upd (upd H25 p26 (.dK [])) p26 (.dK (mergeK [] (kvOf TbR26)))) p (.dK (mergeK (kvOf TbT25) (mergeK [] (kvOf TbR26)))) = H26 at t26 ⊢
  refine ⟨_, rfl, p, _, rfl, t26.dput (by decide +kernel), ?_⟩
  have t27 : Tab H _ p TbT27 := t26.put (k := "arguments") (v := "posonlyargs arg*;args arg*;vararg arg?;kwonlyargs arg*;kw_defaults E?*;kwarg arg?")
  generalize upd H26 p (.dK (putK (kvOf TbT26) (.inr "arguments") (.str "posonlyargs arg*;args arg*;vararg arg?;kwonlyargs arg*;kw_defaults E?*;kwarg arg?"))) = H27 at t27 ⊢
  refine ⟨_, rfl, p, .str "posonlyargs arg*;args arg*;vararg arg?;kwonlyargs arg*;kw_defaults E?*;kwarg arg?", rfl, t27.dget (by decide +kernel), "posonlyargs arg*;args arg*;vararg arg?;kwonlyargs arg*;kw_defaults E?*;kwarg arg?", ";defaults E*", rfl, rfl, by decide +kernel, _, rfl, p, _, rfl, t27.dput (by decide +kernel), ?_⟩
  have t28 : Tab H _ p TbT28 := t27.put (k := "arguments") (v := ("posonlyargs arg*;args arg*;vararg arg?;kwonlyargs arg*;kw_defaults E?*;kwarg arg?" : Str) ++ ";defaults E*")
  generalize upd H27 p (.dK (putK (kvOf TbT27) (.inr "arguments") (.str (("posonlyargs arg*;args arg*;vararg arg?;kwonlyargs arg*;kw_defaults E?*;kwarg arg?" : Str) ++ ";defaults E*")))) = H28 at t28 ⊢
  refine ⟨_, rfl, .inr (.inr (.inl ⟨rfl, .inl ⟨_, t28.at_⟩⟩)), fun p29 np29 => ?_⟩
  have n29 : p ≠ p29 := ne_of_none t28.at_ np29
  refine ⟨upd_same, kvOf TbR29, rfl, by decide, p, p29, _, _, rfl, rfl, n29, by rw [upd_ne n29, upd_ne n29]; exact t28.at_, upd_same, len_ok _ _ (by decide +kernel), ?_⟩
  have t29 : Tab H _ p TbT29 := t28.upd (B := TbR29) np29
  generalize upd (upd (upd H28 p29 (.dK [])) p29 (.dK (mergeK [] (kvOf TbR29)))) p (.dK (mergeK (kvOf TbT28) (mergeK [] (kvOf TbR29)))) = H29 at t29 ⊢
  refine ⟨_, rfl, .inr (.inr (.inl ⟨rfl, .inl ⟨_, t29.at_⟩⟩)), rfl, fun G30 p30 tp30 => ?_⟩
  have u30 := t29.up tp30.sm
  have n30 : p ≠ p30 := fun z => by have y := tp30.n0; rw [← z, t29.at_] at y; cases y
  refine ⟨p, p30, _, _, rfl, rfl, n30, u30.at_, tp30.at_, len_ok2 _ _ (by decide +kernel), ?_⟩
  have t30 : Tab H _ p TbT30 := u30.mrg (B := PatRows)
  generalize upd G30 p (.dK (mergeK (kvOf TbT29) (kvOf PatRows))) = H30 at t30 ⊢
  exact ⟨_, rfl, q H30 p t30⟩
end M4

namespace M4
open PySem PySem.Spec PyProof.Rows L2
/-! ### the fields of a kind, by the law -/
def rowTx (k : Str) : Str := (TblRows.lookup k).getD ""
def piecesP (k : Str) : List Str := (Txt.split (rowTx k) ";").filter fun x : Str => !decide (x = "")
def fieldsP (k : Str) : List (List Str) := (piecesP k).map fun x => Txt.split x " "
def okRow (k : Str) : Bool := decide ((rowTx k).length ≤ 400) && (decide ((Txt.split (rowTx k) ";").length ≤ 20) && (Txt.split (rowTx k) ";").all fun x => decide (x.length ≤ 200))
/-- the law's fields are the program's -/
def sameRow : List (List Str) → List (Str × Str × Str) → Bool
  | [], [] => true
  | [n, _] :: ps, r :: rs => decide (n = r.1) && sameRow ps rs
  | _, _ => false
theorem rows_ok : (Fld.all fun p => okRow p.1 && sameRow (fieldsP p.1) p.2) = true := by decide +kernel
abbrev sFd : Stmt := topS 28
theorem scFd : FnScope ["_law_kind", "_law_row", "_law_part_here"] ["_law_kind"] (defScope sFd) := ⟨rfl, rfl, rfl, by decide +kernel, rfl, by decide +kernel, by decide +kernel⟩
/-- at q: the list of the tuples, all new since H -/
structure FdsAt (H H' : Hp) (q : Addr) (ps : List (List Str)) : Prop where
  nq : H q = none
  at_ : ∃ as : List Addr, H' q = some (.lst (as.map V.ref)) ∧ as.length = ps.length ∧ ∀ (i : Nat) b p, as[i]? = some b → ps[i]? = some p → H b = none ∧ H' b = some (.tup (p.map V.str))
def spFd : Sp := fun vs H Q _ => ∃ k : Str, vs = [.str k] ∧ okRow k = true ∧ ∀ (H' : Hp) (q : Addr), Same H H' → FdsAt H H' q (fieldsP k) → Q (.ref q) H'
def rTupOf (K : PySem.W.Frag) : List V → Hp → VK → Prop := fun xs H Q => ∃ (p : Addr) (ys : List V), xs = [V.ref p] ∧ ((SqL K H p ys ∧ ∀ l : Addr, H l = none → Q (V.ref l) (upd H l (HO.tup ys))) ∨ SqT K H p ys ∧ Q (V.ref p) H)
theorem ct {K : PySem.W.Frag} (X : Cx) (e : X.K = K) : CallR X (.type "tuple") (rTupOf K) := e ▸ call_tuple_of
section
variable {P : Program} {w : World} {K : PySem.W.Frag} {mg : Str → Option Value} {base : Heap}
theorem ok_fd {f fT : Addr} {fd dT : FuncData} (F : Fun K "_law_fields" "_law_fields" sFd f fd) (Z : Blt mg)
    (TB : FnOk P w K mg base CX0 2 fT dT [] (spTab TblRows)) (bT : Binds K dT [] []) (kT : PySem.W.keepIn K (.ref fT) = true) (mT : mg "_law_table" = some (.ref fT)) : FnOk P w K mg base CX0 3 f fd ["_law_kind"] spFd := by
  refine F.ok scFd (fun vs H Q E h => ?_) (fun cdv A outer s H vs Q E hr h => ?_)
  · obtain ⟨k, rfl, _⟩ := h
    rfl
  obtain ⟨k, rfl, ok, q⟩ := h
  refine ⟨_, (pss_cons (ps_set (i := 1) scFd.nd rfl (.inl rfl) (pe_dget2 (hu_of hr) (pe_call0 TB hr (by rfl) mT kT bT .nil pass0) (pv 0) pe_str ⟨rfl, rfl, rfl, rfl⟩))
    (pss_one (ps_ret (pe_lc (own := [("_law_part_here", 2)]) (g := gName 2) (tt := tB (tOp rNe (tVar 2) (tC (.str "")))) rfl scFd.nd (pi_list (pe_split (pv 1) pe_str)) (blkOk_by (own := [("_law_part_here", 2)]) (N := ["_law_kind", "_law_row", "_law_part_here"]) (sc := (defScope sFd)) (by decide +kernel)) (fun _ _ _ _ _ => (pg_name (i := 2) scFd.nd rfl (.inl rfl))) (fun _ _ _ _ _ => pts_one (pt_cmpR op_ne (pv 2) pe_str (nomark _))) (fun _ _ _ _ _ => (pe_callTy (ct (K := K) _ rfl) (by rfl) Z.tp (by decide +kernel) (pa_cons (pe_split (pv 2) pe_str) pa_nil))))))), ?_⟩
  obtain ⟨o1, ok2⟩ := Bool.and_eq_true_iff.mp ok
  obtain ⟨o2, o3⟩ := Bool.and_eq_true_iff.mp ok2
  have o1 := of_decide_eq_true o1
  have o2 := of_decide_eq_true o2
  have zS : (1000 : Nat) ≤ sizeLine := by decide
  refine ⟨rfl, fun H1 t tb => ⟨t, rfl, .inl ⟨_, Rd.of tb.at_⟩, _, rfl, _, DGet.k (k := Sum.inr k) tb.at_, ?_⟩⟩
  have e0 : ((valV (kvOf TblRows) (Sum.inr k)).getD (.str "")) = .str (rowTx k) := by
    rw [valV_kvOf]
    unfold rowTx
    cases TblRows.lookup k <;> rfl
  rw [e0]
  refine ⟨_, rfl, ⟨_, rfl⟩, rowTx k, _, rfl, rfl, by decide +kernel, by omega, fun l nl => ⟨l, rfl, ⟨_, SqL.of upd_same⟩, fun D nD => ?_⟩⟩
  have sl := same_new (o := .lst ((Txt.split (rowTx k) ";").map V.str)) nl
  have hl : (upd H1 l (.lst ((Txt.split (rowTx k) ";").map V.str))) l = some (.lst ((Txt.split (rowTx k) ";").map V.str)) := upd_same
  generalize upd H1 l (.lst ((Txt.split (rowTx k) ";").map V.str)) = Hl at sl hl nD ⊢
  have s0l : Same H Hl := tb.sm.trans sl
  refine lc_list (K := K) (a := l) (xs := (Txt.split (rowTx k) ";").map V.str) (fun m H8 => ∃ as : List Addr, Same Hl H8 ∧ H8 D = some (.lst (as.map V.ref)) ∧ as.length = (((Txt.split (rowTx k) ";").take m).filter fun x : Str => !decide (x = "")).length ∧
      ∀ (n : Nat) b p, as[n]? = some b → (((Txt.split (rowTx k) ";").take m).filter fun x : Str => !decide (x = ""))[n]? = some p → H b = none ∧ H8 b = some (.tup ((Txt.split p " ").map V.str))) ⟨[], same_new nD, upd_same, rfl, fun n b p g => by simp at g⟩ (fun m H8 _ ⟨_, s8, _⟩ => SqL.of (s8 _ _ hl)) ?_ ?_
  · rintro m x H8 hx ⟨as, s8, hD, hlen, hp8⟩
    rw [List.getElem?_map] at hx
    obtain ⟨p, hp, rfl⟩ := Option.map_eq_some_iff.mp hx
    have hm : m < (Txt.split (rowTx k) ";").length := by
      rcases Nat.lt_or_ge m (Txt.split (rowTx k) ";").length with z | z
      · exact z
      · rw [List.getElem?_eq_none z] at hp; cases hp
    have pl := of_decide_eq_true (List.all_eq_true.mp o3 p (List.mem_of_getElem? hp))
    have et : ((Txt.split (rowTx k) ";").take (m + 1)).filter (fun x : Str => !decide (x = "")) = ((Txt.split (rowTx k) ";").take m).filter (fun x : Str => !decide (x = "")) ++ (if p = "" then [] else [p]) := by
      rw [List.take_succ, hp, List.filter_append]
      by_cases e : p = ""
      · rw [if_pos e]; simp [e]
      · rw [if_neg e]; simp [e]
    refine ⟨rfl, ?_⟩
    refine ⟨_, rfl, rfl, _, rfl, ?_⟩
    refine ite2 (fun c => ?_) (fun c => ?_)
    · have ne : p ≠ "" := fun z => by rw [z] at c; simp at c
      rw [if_neg ne] at et
      refine ⟨_, rfl, ⟨_, rfl⟩, p, _, rfl, rfl, by decide +kernel, by omega, fun b nb => ⟨b, _, rfl, .inl ⟨SqL.of upd_same, fun tu ntu => ?_⟩⟩⟩
      have Db : D ≠ b := ne_of_none hD nb
      have ntu8 : H8 tu = none := (same_new nb).free ntu
      have Dt : D ≠ tu := ne_of_none hD ntu8
      have sU : Same H8 (upd (upd H8 b (.lst ((Txt.split p " ").map V.str))) tu (.tup ((Txt.split p " ").map V.str))) := (same_new nb).trans (same_new ntu)
      refine ⟨as.map V.ref, by rw [upd_ne Dt, upd_ne Db]; exact hD, ?_, as ++ [tu], fun b' o e => ?_, by rw [upd_same, List.map_append]; rfl, by rw [et, List.length_append, List.length_append, hlen]; rfl, fun n b' p' g1 g2 => ?_⟩
      · have z1 := List.length_filter_le (fun x : Str => !decide (x = "")) ((Txt.split (rowTx k) ";").take m)
        rw [List.length_take] at z1
        rw [List.length_map, hlen]
        omega
      · rw [upd_ne (ne_of_none e nD)]
        exact sU _ _ (s8 _ _ e)
      · rw [et] at g2
        by_cases hn : n < as.length
        · rw [List.getElem?_append_left hn] at g1
          rw [List.getElem?_append_left (by rw [← hlen]; exact hn)] at g2
          obtain ⟨h1, h2⟩ := hp8 n b' p' g1 g2
          refine ⟨h1, ?_⟩
          rw [upd_ne (fun z => by rw [z, hD] at h2; cases h2)]
          exact sU _ _ h2
        · have ln : n = as.length := by
            have z : n < (as ++ [tu]).length := by
              rcases Nat.lt_or_ge n (as ++ [tu]).length with y | y
              · exact y
              · rw [List.getElem?_eq_none y] at g1; cases g1
            rw [List.length_append, List.length_singleton] at z
            omega
          subst ln
          rw [List.getElem?_append_right (Nat.le_refl _), Nat.sub_self] at g1
          rw [hlen, List.getElem?_append_right (Nat.le_refl _), Nat.sub_self] at g2
          cases g1
          cases g2
          refine ⟨s0l.free (s8.free ntu8), ?_⟩
          rw [upd_ne Dt.symm, upd_same]
    · have e : p = "" := by
        have z : decide (V.str p = V.str "") = true := by simpa using c
        exact V.str.inj (of_decide_eq_true z)
      rw [if_pos e, List.append_nil] at et
      exact ⟨as, s8, hD, by rw [et]; exact hlen, fun n b p' g1 g2 => hp8 n b p' g1 (by rw [et] at g2; exact g2)⟩
  · rintro H8 ⟨as, s8, hD, hlen, hp8⟩
    have e : (((Txt.split (rowTx k) ";").map V.str).length) = (Txt.split (rowTx k) ";").length := List.length_map _
    rw [e, List.take_length] at hlen hp8
    refine q H8 D (s0l.trans s8) ⟨s0l.free nD, as, hD, by unfold fieldsP piecesP; rw [List.length_map]; exact hlen, fun i b p g1 g2 => ?_⟩
    unfold fieldsP piecesP at g2
    rw [List.getElem?_map] at g2
    obtain ⟨x, hx, rfl⟩ := Option.map_eq_some_iff.mp g2
    exact hp8 i b x g1 hx
end
end M4

namespace M4
open PySem PySem.Spec PyProof.Rows L2
/-! ### the kinds that a letter of the law's table stands for -/
def GrR0 : List (Str × Str) := [("S", "FunctionDef AsyncFunctionDef ClassDef Return Delete Assign AugAssign AnnAssign For")]
def GrT0 : List (Str × Str) := mergeR [] GrR0
def GrT1 : List (Str × Str) := putR GrT0 "S" (("FunctionDef AsyncFunctionDef ClassDef Return Delete Assign AugAssign AnnAssign For" : Str) ++ " AsyncFor While If With AsyncWith Match Raise Try Assert Import ImportFrom")
def GrT2 : List (Str × Str) := putR GrT1 "S" (("FunctionDef AsyncFunctionDef ClassDef Return Delete Assign AugAssign AnnAssign For AsyncFor While If With AsyncWith Match Raise Try Assert Import ImportFrom" : Str) ++ " Global Nonlocal Expr Pass Break Continue")
def GrT3 : List (Str × Str) := putR GrT2 "E" "BoolOp NamedExpr BinOp UnaryOp Lambda IfExp Dict Set ListComp SetComp GeneratorExp"
def GrT4 : List (Str × Str) := putR GrT3 "E" (("BoolOp NamedExpr BinOp UnaryOp Lambda IfExp Dict Set ListComp SetComp GeneratorExp" : Str) ++ " DictComp Await Yield YieldFrom Compare Call FormattedValue JoinedStr Constant")
def GrT5 : List (Str × Str) := putR GrT4 "E" (("BoolOp NamedExpr BinOp UnaryOp Lambda IfExp Dict Set ListComp SetComp GeneratorExp DictComp Await Yield YieldFrom Compare Call FormattedValue JoinedStr Constant" : Str) ++ " Attribute Subscript Starred Name List Tuple Slice Name Constant")
def GrT6 : List (Str × Str) := putR GrT5 "T" "MatchAs MatchOr MatchSingleton MatchMapping MatchValue MatchSequence MatchClass MatchStar"
def GrR7 : List (Str × Str) := [("O", "And Or"), ("U", "Invert Not UAdd USub"), ("X", "Load Store Del")]
def GrT7 : List (Str × Str) := mergeR GrT6 (mergeR [] GrR7)
def GrT8 : List (Str × Str) := putR GrT7 "P" "Add Sub Mult MatMult Div FloorDiv Pow LShift RShift BitOr BitXor BitAnd"
def GrT9 : List (Str × Str) := putR GrT8 "C" "Eq NotEq Lt LtE Gt GtE Is IsNot In NotIn"
def grpTx (h : Str) : Str := (GrT9.lookup h).getD h
def groupP (h : Str) : List Str := Txt.split (grpTx h) " "
abbrev sGr : Stmt := topS 29
theorem scGr : FnScope ["_law_held", "_law_words"] ["_law_held"] (defScope sGr) := ⟨rfl, rfl, rfl, by decide +kernel, rfl, by decide +kernel, by decide +kernel⟩
def spGr : Sp := fun vs H Q _ => ∃ h : Str, vs = [.str h] ∧ (grpTx h).length ≤ 1000 ∧ ∀ (H' : Hp) (q : Addr), Same H H' → H q = none → H' q = some (.lst ((groupP h).map V.str)) → Q (.ref q) H'
theorem ok_gr {P : Program} {w : World} {K : PySem.W.Frag} {mg : Str → Option Value} {base : Heap} {f : Addr} {fd : FuncData} (F : Fun K "_law_group" "_law_group" sGr f fd) : FnOk P w K mg base CX0 1 f fd ["_law_held"] spGr := by
  refine F.ok scGr (fun vs H Q E h => ?_) (fun cdv A outer s H vs Q E hr h => ?_)
  · obtain ⟨h, rfl, _⟩ := h
    rfl
  obtain ⟨h, rfl, hl, q⟩ := h
  have zS : (2000 : Nat) ≤ sizeLine := by decide
  refine ⟨_, pss_cons (ps_set (i := 1) scGr.nd rfl (.inl rfl) (pe_disp (pps_cons pe_str pe_str pps_nil) (by rfl) (by rfl) (fun z => by cases z) (by decide)))
    (pss_cons (ps_dput (hu_of hr) (pv 1) pe_str (pe_op op_add_str (pe_dget (hu_of hr) (pv 1) pe_str (fun _ _ => rfl)) pe_str) (by rfl))
    (pss_cons (ps_dput (hu_of hr) (pv 1) pe_str (pe_op op_add_str (pe_dget (hu_of hr) (pv 1) pe_str (fun _ _ => rfl)) pe_str) (by rfl))
    (pss_cons (ps_dput (hu_of hr) (pv 1) pe_str pe_str (by rfl))
    (pss_cons (ps_dput (hu_of hr) (pv 1) pe_str (pe_op op_add_str (pe_dget (hu_of hr) (pv 1) pe_str (fun _ _ => rfl)) pe_str) (by rfl))
    (pss_cons (ps_dput (hu_of hr) (pv 1) pe_str (pe_op op_add_str (pe_dget (hu_of hr) (pv 1) pe_str (fun _ _ => rfl)) pe_str) (by rfl))
    (pss_cons (ps_dput (hu_of hr) (pv 1) pe_str pe_str (by rfl))
    (pss_cons (ps_expr (pe_bm PySem.F.plainAttrs_dict PySem.F.slot_dict_update PySem.F.type_dict_update mt_update (pv 1) (pa_cons (pe_disp (pps_cons pe_str pe_str (pps_cons pe_str pe_str (pps_cons pe_str pe_str pps_nil))) (by rfl) (by rfl) (fun z => by cases z) (by decide)) pa_nil)))
    (pss_cons (ps_dput (hu_of hr) (pv 1) pe_str pe_str (by rfl))
    (pss_cons (ps_dput (hu_of hr) (pv 1) pe_str pe_str (by rfl))
    (pss_one (ps_ret (pe_split (pe_dget2 (hu_of hr) (pv 1) (pv 0) (pv 0) ⟨rfl, rfl, rfl, rfl⟩) pe_str)))))))))))), ?_⟩
  refine fun p np => ⟨upd_same, kvOf GrR0, rfl, by decide, ?_⟩
  have t0 : Tab H _ p GrT0 := Tab.new (B := GrR0) np
  generalize upd (upd H p (.dK [])) p (.dK (mergeK [] (kvOf GrR0))) = H0 at t0 ⊢
  refine ⟨_, rfl, p, .str "FunctionDef AsyncFunctionDef ClassDef Return Delete Assign AugAssign AnnAssign For", rfl, t0.dget (by decide +kernel), "FunctionDef AsyncFunctionDef ClassDef Return Delete Assign AugAssign AnnAssign For", " AsyncFor While If With AsyncWith Match Raise Try Assert Import ImportFrom", rfl, rfl, by decide +kernel, _, rfl, p, _, rfl, t0.dput (by decide +kernel), ?_⟩
  have t1 : Tab H _ p GrT1 := t0.put (k := "S") (v := ("FunctionDef AsyncFunctionDef ClassDef Return Delete Assign AugAssign AnnAssign For" : Str) ++ " AsyncFor While If With AsyncWith Match Raise Try Assert Import ImportFrom")
  generalize upd H0 p (.dK (putK (kvOf GrT0) (.inr "S") (.str (("FunctionDef AsyncFunctionDef ClassDef Return Delete Assign AugAssign AnnAssign For" : Str) ++ " AsyncFor While If With AsyncWith Match Raise Try Assert Import ImportFrom")))) = H1 at t1 ⊢
  refine ⟨_, rfl, p, .str "FunctionDef AsyncFunctionDef ClassDef Return Delete Assign AugAssign AnnAssign For AsyncFor While If With AsyncWith Match Raise Try Assert Import ImportFrom", rfl, t1.dget (by decide +kernel), "FunctionDef AsyncFunctionDef ClassDef Return Delete Assign AugAssign AnnAssign For AsyncFor While If With AsyncWith Match Raise Try Assert Import ImportFrom", " Global Nonlocal Expr Pass Break Continue", rfl, rfl, by decide +kernel, _, rfl, p, _, rfl, t1.dput (by decide +kernel), ?_⟩
  have t2 : Tab H _ p GrT2 := t1.put (k := "S") (v := ("FunctionDef AsyncFunctionDef ClassDef Return Delete Assign AugAssign AnnAssign For AsyncFor While If With AsyncWith Match Raise Try Assert Import ImportFrom" : Str) ++ " Global Nonlocal Expr Pass Break Continue")
  generalize upd H1 p (.dK (putK (kvOf GrT1) (.inr "S") (.str (("FunctionDef AsyncFunctionDef ClassDef Return Delete Assign AugAssign AnnAssign For AsyncFor While If With AsyncWith Match Raise Try Assert Import ImportFrom" : Str) ++ " Global Nonlocal Expr Pass Break Continue")))) = H2 at t2 ⊢
  refine ⟨_, rfl, p, _, rfl, t2.dput (by decide +kernel), ?_⟩
  have t3 : Tab H _ p GrT3 := t2.put (k := "E") (v := "BoolOp NamedExpr BinOp UnaryOp Lambda IfExp Dict Set ListComp SetComp GeneratorExp")
  generalize upd H2 p (.dK (putK (kvOf GrT2) (.inr "E") (.str "BoolOp NamedExpr BinOp UnaryOp Lambda IfExp Dict Set ListComp SetComp GeneratorExp"))) = H3 at t3 ⊢
  refine ⟨_, rfl, p, .str "BoolOp NamedExpr BinOp UnaryOp Lambda IfExp Dict Set ListComp SetComp GeneratorExp", rfl, t3.dget (by decide +kernel), "BoolOp NamedExpr BinOp UnaryOp Lambda IfExp Dict Set ListComp SetComp GeneratorExp", " DictComp Await Yield YieldFrom Compare Call FormattedValue JoinedStr Constant", rfl, rfl, by decide +kernel, _, rfl, p, _, rfl, t3.dput (by decide +kernel), ?_⟩
  have t4 : Tab H _ p GrT4 := t3.put (k := "E") (v := ("BoolOp NamedExpr BinOp UnaryOp Lambda IfExp Dict Set ListComp SetComp GeneratorExp" : Str) ++ " DictComp Await Yield YieldFrom Compare Call FormattedValue JoinedStr Constant")
  generalize upd H3 p (.dK (putK (kvOf GrT3) (.inr "E") (.str (("BoolOp NamedExpr BinOp UnaryOp Lambda IfExp Dict Set ListComp SetComp GeneratorExp" : Str) ++ " DictComp Await Yield YieldFrom Compare Call FormattedValue JoinedStr Constant")))) = H4 at t4 ⊢
  refine ⟨_, rfl, p, .str "BoolOp NamedExpr BinOp UnaryOp Lambda IfExp Dict Set ListComp SetComp GeneratorExp DictComp Await Yield YieldFrom Compare Call FormattedValue JoinedStr Constant", rfl, t4.dget (by decide +kernel), "BoolOp NamedExpr BinOp UnaryOp Lambda IfExp Dict Set ListComp SetComp GeneratorExp DictComp Await Yield YieldFrom Compare Call FormattedValue JoinedStr Constant", " Attribute Subscript Starred Name List Tuple Slice Name Constant", rfl, rfl, by decide +kernel, _, rfl, p, _, rfl, t4.dput (by decide +kernel), ?_⟩
  have t5 : Tab H _ p GrT5 := t4.put (k := "E") (v := ("BoolOp NamedExpr BinOp UnaryOp Lambda IfExp Dict Set ListComp SetComp GeneratorExp DictComp Await Yield YieldFrom Compare Call FormattedValue JoinedStr Constant" : Str) ++ " Attribute Subscript Starred Name List Tuple Slice Name Constant")
  generalize upd H4 p (.dK (putK (kvOf GrT4) (.inr "E") (.str (("BoolOp NamedExpr BinOp UnaryOp Lambda IfExp Dict Set ListComp SetComp GeneratorExp DictComp Await Yield YieldFrom Compare Call FormattedValue JoinedStr Constant" : Str) ++ " Attribute Subscript Starred Name List Tuple Slice Name Constant")))) = H5 at t5 ⊢
  refine ⟨_, rfl, p, _, rfl, t5.dput (by decide +kernel), ?_⟩
  have t6 : Tab H _ p GrT6 := t5.put (k := "T") (v := "MatchAs MatchOr MatchSingleton MatchMapping MatchValue MatchSequence MatchClass MatchStar")
  generalize upd H5 p (.dK (putK (kvOf GrT5) (.inr "T") (.str "MatchAs MatchOr MatchSingleton MatchMapping MatchValue MatchSequence MatchClass MatchStar"))) = H6 at t6 ⊢
  refine ⟨_, rfl, .inr (.inr (.inl ⟨rfl, .inl ⟨_, t6.at_⟩⟩)), fun p7 np7 => ?_⟩
  have n7 : p ≠ p7 := ne_of_none t6.at_ np7
  refine ⟨upd_same, kvOf GrR7, rfl, by decide, p, p7, _, _, rfl, rfl, n7, by rw [upd_ne n7, upd_ne n7]; exact t6.at_, upd_same, len_ok _ _ (by decide +kernel), ?_⟩
  have t7 : Tab H _ p GrT7 := t6.upd (B := GrR7) np7
  generalize upd (upd (upd H6 p7 (.dK [])) p7 (.dK (mergeK [] (kvOf GrR7)))) p (.dK (mergeK (kvOf GrT6) (mergeK [] (kvOf GrR7)))) = H7 at t7 ⊢
  refine ⟨_, rfl, p, _, rfl, t7.dput (by decide +kernel), ?_⟩
  have t8 : Tab H _ p GrT8 := t7.put (k := "P") (v := "Add Sub Mult MatMult Div FloorDiv Pow LShift RShift BitOr BitXor BitAnd")
  generalize upd H7 p (.dK (putK (kvOf GrT7) (.inr "P") (.str "Add Sub Mult MatMult Div FloorDiv Pow LShift RShift BitOr BitXor BitAnd"))) = H8 at t8 ⊢
  refine ⟨_, rfl, p, _, rfl, t8.dput (by decide +kernel), ?_⟩
  have t9 : Tab H _ p GrT9 := t8.put (k := "C") (v := "Eq NotEq Lt LtE Gt GtE Is IsNot In NotIn")
  generalize upd H8 p (.dK (putK (kvOf GrT8) (.inr "C") (.str "Eq NotEq Lt LtE Gt GtE Is IsNot In NotIn"))) = H9 at t9 ⊢
  refine ⟨_, rfl, p, rfl, .inl ⟨_, Rd.of t9.at_⟩, _, rfl, _, rfl, _, DGet.k (k := Sum.inr h) t9.at_, ?_⟩
  have e0 : ((valV (kvOf GrT9) (Sum.inr h)).getD (.str h)) = .str (grpTx h) := by
    rw [valV_kvOf]
    unfold grpTx
    cases GrT9.lookup h <;> rfl
  rw [e0]
  exact ⟨⟨_, rfl⟩, grpTx h, _, rfl, rfl, by decide +kernel, by omega, fun l nl => q _ l (t9.sm.trans (same_new nl)) (t9.sm.free nl) upd_same⟩
end M4

namespace M4
open PySem PySem.Spec PyProof.Rows L2
/-! ### a spot: four numbers or None -/
abbrev sSp : Stmt := topS 31
theorem scSp : FnScope ["_law_stream", "_law_way", "_law_found", "_law_number"] ["_law_stream"] (defScope sSp) := ⟨rfl, rfl, rfl, by decide +kernel, rfl, by decide +kernel, by decide +kernel⟩
def isNum : V → Bool
  | .non => true
  | .int _ => true
  | _ => false
def spSp : Sp := fun vs H Q _ => ∃ (a c : Addr) (S : Stm), vs = [.ref a] ∧ StmAt H a c S ∧ S.cnt < 900000 ∧
  ∀ (H' : Hp) (S' : Stm) (q : Addr) (xs : List V), StmAt H' a c S' → S'.cnt ≤ S.cnt + 9 → Kept a c H H' → H q = none → H' q = some (.lst xs) → xs.length = 4 → (∀ x ∈ xs, isNum x = true) → Q (.ref q) H'
section
variable {P : Program} {w : World} {K : PySem.W.Frag} {mg : Str → Option Value} {base : Heap}
theorem ok_sp {f fD : Addr} {fd dD : FuncData} (F : Fun K "_law_spot" "_law_spot" sSp f fd)
    (D : FnOk P w K mg base CX0 1 fD dD ["_law_stream", "_law_many"] spDraw) (bD : Binds K dD ["_law_stream", "_law_many"] []) (kD : PySem.W.keepIn K (.ref fD) = true) (mD : mg "_law_draw" = some (.ref fD)) : FnOk P w K mg base CX0 2 f fd ["_law_stream"] spSp := by
  refine F.ok scSp (fun vs H Q E h => ?_) (fun cdv A outer s H vs Q E hr h => ?_)
  · obtain ⟨a, c, S, rfl, _⟩ := h
    rfl
  obtain ⟨a, c, S, rfl, hS, hc, q⟩ := h
  refine ⟨_, (pss_cons (ps_set (i := 1) scSp.nd rfl (.inr rfl) (pe_call D hr rfl mD kD bD .nil pass0 (pa_cons (pv 0) (pa_cons pe_int pa_nil))))
    (pss_cons (ps_set (i := 2) scSp.nd rfl (.inl rfl) (pe_lst (pa_cons (pe_op op_add pe_int (pe_call D hr rfl mD kD bD .nil pass0 (pa_cons (pv 0) (pa_cons pe_int pa_nil)))) (pa_cons (pe_call D hr rfl mD kD bD .nil pass0 (pa_cons (pv 0) (pa_cons pe_int pa_nil))) (pa_cons (pe_op op_add pe_int (pe_call D hr rfl mD kD bD .nil pass0 (pa_cons (pv 0) (pa_cons pe_int pa_nil)))) (pa_cons (pe_call D hr rfl mD kD bD .nil pass0 (pa_cons (pv 0) (pa_cons pe_int pa_nil))) pa_nil))))))
    (pss_one (ps_ret (pe_lc (own := [("_law_number", 3)]) (g := gName 3) (tt := tYes) rfl scSp.nd (pi_list (pv 2)) (blkOk_by (own := [("_law_number", 3)]) (N := ["_law_stream", "_law_way", "_law_found", "_law_number"]) (sc := (defScope sSp)) (by decide +kernel)) (fun _ _ _ _ _ => (pg_name (i := 3) scSp.nd rfl (.inl rfl))) (fun _ _ _ _ _ => pts_nil) (fun _ _ _ _ _ => (pe_ifExp (PW.pt (pw_or (pt_cmpR op_eq (pv 1) pe_int (nomark _)) (pw_or1 (PW.pt (pw_and (pt_cmpR op_eq (pv 1) pe_int (nomark _)) (pw_and1 (pt_cmpR op_eq (pe_call D hr rfl mD kD bD .nil pass0 (pa_cons (pv 0) (pa_cons pe_int pa_nil))) pe_int (nomark _)))))))) pe_non (pv 3)))))))), ?_⟩
  refine ⟨_, rfl, a, c, S, 3, rfl, hS, by omega, by decide, by decide, fun H1 S1 r1 h1 c1 k1 _ _ => ?_⟩
  refine ⟨_, rfl, a, c, S1, 9, rfl, h1, by omega, by decide, by decide, fun H2 S2 r2 h2 c2 k2 _ _ => ⟨_, _, rfl, rfl, ?_⟩⟩
  refine ⟨_, rfl, a, c, S2, 30, rfl, h2, by omega, by decide, by decide, fun H3 S3 r3 h3 c3 k3 _ _ => ?_⟩
  refine ⟨_, rfl, a, c, S3, 9, rfl, h3, by omega, by decide, by decide, fun H4 S4 r4 h4 c4 k4 _ _ => ⟨_, _, rfl, rfl, ?_⟩⟩
  refine ⟨_, rfl, a, c, S4, 30, rfl, h4, by omega, by decide, by decide, fun H5 S5 r5 h5 c5 k5 _ _ => ?_⟩
  refine ⟨by show 4 ≤ sizeLine; decide, fun L nL => ?_⟩
  have kL : Kept a c H (upd H5 L (.lst [.int (1 + r2), .int r3, .int (1 + r4), .int r5])) := ((((k1.trans k2).trans k3).trans k4).trans k5).trans (Kept.same (same_new nL))
  have h6 := h5.keep (same_new (o := .lst [.int (1 + r2), .int r3, .int (1 + r4), .int r5]) nL)
  have hL : (upd H5 L (.lst [.int (1 + r2), .int r3, .int (1 + r4), .int r5])) L = some (.lst [.int (1 + r2), .int r3, .int (1 + r4), .int r5]) := upd_same
  have aL : L ≠ a := (ne_of_none h5.lst nL).symm
  have cL : L ≠ c := (ne_of_none h5.cel nL).symm
  generalize upd H5 L (.lst [.int (1 + r2), .int r3, .int (1 + r4), .int r5]) = H6 at kL h6 hL ⊢
  refine ⟨_, rfl, L, rfl, ⟨_, SqL.of hL⟩, fun G nG => ?_⟩
  have aG : G ≠ a := (ne_of_none h6.lst nG).symm
  have cG : G ≠ c := (ne_of_none h6.cel nG).symm
  have LG : L ≠ G := ne_of_none hL nG
  refine lc_list (K := K) (a := L) (xs := [.int (1 + r2), .int r3, .int (1 + r4), .int r5]) (fun i H7 => ∃ (S7 : Stm) (ys : List V), StmAt H7 a c S7 ∧ S7.cnt ≤ S.cnt + 5 + i ∧ Kept a c H6 H7 ∧ H7 G = some (.lst ys) ∧ ys.length = i ∧ ∀ y ∈ ys, isNum y = true)
    ⟨S5, [], h6.keep (same_new nG), by show S5.cnt ≤ S.cnt + 5 + (0 : Int); omega, Kept.same (same_new nG), upd_same, rfl, fun y hy => by cases hy⟩ (fun i H7 _ ⟨_, _, _, _, k, _⟩ => SqL.of (k _ _ aL cL hL)) ?_ ?_
  · rintro i x H7 hx ⟨S7, ys, h7, c7, k7, g7, l7, n7⟩
    have hi : i < 4 := by
      rcases Nat.lt_or_ge i 4 with z | z
      · exact z
      · rw [List.getElem?_eq_none (by exact z)] at hx; cases hx
    obtain ⟨j, rfl⟩ : ∃ j, x = V.int j := by
      rcases i with _ | _ | _ | _ | i
      · cases hx; exact ⟨_, rfl⟩
      · cases hx; exact ⟨_, rfl⟩
      · cases hx; exact ⟨_, rfl⟩
      · cases hx; exact ⟨_, rfl⟩
      · omega
    have fin : ∀ (H8 : Hp) (S8 : Stm) (y : V), StmAt H8 a c S8 → S8.cnt ≤ S7.cnt + 1 → Kept a c H7 H8 → isNum y = true → ∃ acc, H8 G = some (.lst acc) ∧ acc.length < sizeLine ∧ ∃ (S9 : Stm) (zs : List V), StmAt (upd H8 G (.lst (acc ++ [y]))) a c S9 ∧ S9.cnt ≤ S.cnt + 5 + ((i + 1 : Nat) : Int) ∧ Kept a c H6 (upd H8 G (.lst (acc ++ [y]))) ∧ (upd H8 G (.lst (acc ++ [y]))) G = some (.lst zs) ∧ zs.length = i + 1 ∧ ∀ z ∈ zs, isNum z = true := by
      intro H8 S8 y h8 c8 k8 hy
      refine ⟨ys, k8 _ _ aG cG g7, by have z : (100 : Nat) ≤ sizeLine := (by decide); omega, S8, ys ++ [y], ?_, by omega, fun b o n1 n2 e => ?_, upd_same, by rw [List.length_append, l7]; rfl, fun z hz => ?_⟩
      · refine ⟨by rw [upd_ne aG.symm]; exact h8.lst, by rw [upd_ne cG.symm]; exact h8.cel, h8.ne, h8.len, h8.cur0, h8.cnt0, h8.mix0, h8.mix1⟩
      · rw [upd_ne (ne_of_none e nG)]
        exact k8 b o n1 n2 (k7 b o n1 n2 e)
      · rcases List.mem_append.mp hz with z1 | z1
        · exact n7 z z1
        · rw [List.mem_singleton.mp z1]; exact hy
    refine ⟨rfl, ?_⟩
    unfold tYes
    refine iteT ?_
    refine ⟨_, rfl, rfl, _, rfl, ?_⟩
    refine ite2 (fun _ => ?_) (fun _ => ?_)
    · exact fin H7 S7 .non h7 (by omega) (Kept.refl _ _ _) rfl
    · refine ⟨_, rfl, rfl, _, rfl, ?_⟩
      refine ite2 (fun _ => ?_) (fun _ => ?_)
      · refine ⟨_, rfl, a, c, S7, 2, rfl, h7, by omega, by decide, by decide, fun H8 S8 r8 h8 c8 k8 _ _ => ⟨rfl, _, rfl, ?_⟩⟩
        refine ite2 (fun _ => ?_) (fun _ => ?_)
        · exact fin H8 S8 .non h8 c8 k8 rfl
        · exact ⟨_, rfl, fin H8 S8 (.int j) h8 c8 k8 rfl⟩
      · exact ⟨_, rfl, fin H7 S7 (.int j) h7 (by omega) (Kept.refl _ _ _) rfl⟩
  · rintro H7 ⟨S7, ys, h7, c7, k7, g7, l7, n7⟩
    have c7 : S7.cnt ≤ S.cnt + 5 + ((4 : Nat) : Int) := c7
    have nG0 : H G = none := by
      cases e : H G with
      | none => rfl
      | some o => rw [kL G o aG cG e] at nG; cases nG
    exact q H7 S7 G ys h7 (by omega) (kL.trans k7) nG0 g7 l7 n7
end
end M4

namespace M4
open PySem PySem.Spec PyProof.Rows L2 StX
/-! ### objects of values -/
abbrev sIn1 : Stmt := inClass (topS 9) 0
abbrev sIn2 : Stmt := inClass (topS 10) 0
abbrev sIn3 : Stmt := inClass (topS 11) 0
theorem scIn1 : FnScope ["self", "mantissa", "exponent"] ["self", "mantissa", "exponent"] (defScope sIn1) := ⟨rfl, rfl, rfl, by decide +kernel, rfl, by decide +kernel, by decide +kernel⟩
theorem scIn2 : FnScope ["self", "number"] ["self", "number"] (defScope sIn2) := ⟨rfl, rfl, rfl, by decide +kernel, rfl, by decide +kernel, by decide +kernel⟩
theorem scIn3 : FnScope ["self", "numbers"] ["self", "numbers"] (defScope sIn3) := ⟨rfl, rfl, rfl, by decide +kernel, rfl, by decide +kernel, by decide +kernel⟩
/-- C(), no __init__ of its own -/
def tMakeE (C : Addr) : TE := fun _ H Q => ∀ x dx, H x = none → H dx = none → dx ≠ x → Q (.ref x) (upd (upd H dx (.own x)) x (.ins C dx []))
theorem pe_makeE {X : Cx} {C : Addr} {x : Str} {p pos : Pos} (hmk : PySem.W.makesIn X.K C = true) (hi : PySem.W.findIn X.K (.ref C) "__init__" = some (some (.builtin "object.__init__"))) (hob : PySem.W.mroIn X.K C (.type "object") = some true) (kC : PySem.W.keepIn X.K (.ref C) = true)
    (hg : Gl X x) (hm : X.mg x = some (.ref C)) (hdb : (x == ("__debug__" : Str)) = false := by decide) : PE X (.Call (.Name x p) [] [] pos) (tMakeE C) := by
  refine ⟨fun pins s σ H Q I h => wpAny_Call_Name_kw (ld_glob I hg hm ?_ hdb)⟩
  refine PySem.W.callWith_K0 I.kIn kC ?_
  show wpAny _ _ (call (.ref C) []) _ _ _
  have hq := h (s.heap.objs.size + 1) s.heap.objs.size (I.hok.fresh (Nat.le_succ _)) (I.hok.fresh (Nat.le_refl _)) (Nat.ne_of_lt (Nat.lt_succ_self _))
  have I2 := Inv.made (C := C) I
  refine wpAny_call (make_map0 I.kIn hmk hi (fun self => PySem.W.Looks.of_pure (PySem.W.oi_bind self)) ?_)
  have at1 : ((s.heap.push PySem.W.emptyDict).push (PySem.W.instObj C s.heap.objs.size)).get? (s.heap.objs.size + 1) = some (PySem.W.instObj C s.heap.objs.size) := by heap_get
  have t1 : PySem.W.Looks (model X.prog X.w) ((s.heap.push PySem.W.emptyDict).push (PySem.W.instObj C s.heap.objs.size)) (typeOf (.ref (s.heap.objs.size + 1))) (.ref C) := (PySem.W.Looks.ld at1).andThen .now
  have t2 : PySem.W.Looks (model X.prog X.w) ((s.heap.push PySem.W.emptyDict).push (PySem.W.instObj C s.heap.objs.size)) (isInstance (.ref (s.heap.objs.size + 1)) (.type "object")) true := t1.andThen (PySem.W.looks_mroIn I2.kIn hob)
  refine codeAny_call_builtin PySem.W.oi_plain PySem.W.entry_oi (@PySem.W.check_slot (model X.prog X.w) _ _ _ "object.__init__" "object" "__init__" (.ref (s.heap.objs.size + 1)) [] [] _ PySem.W.oi_kind PySem.W.oi_split t2 (PySem.W.oi_args _) ?_)
  rw [PySem.W.oi_run]
  exact wpAny_pure ⟨rfl, ⟨V.ref (s.heap.objs.size + 1), _, I2, rfl, hq⟩⟩
def namesV : Nat → List Str
  | 1 => ["mantissa", "exponent"] | 2 => ["number"] | 3 => ["numbers"] | _ => []
/-- __init__ of the k-th class -/
def spIniW (C : Addr) (j : Nat) : Sp := fun vs H Q _ => ∃ (p dx : Addr) (xs : List V), vs = .ref p :: xs ∧ xs.length = (namesV j).length ∧ H p = some (.ins C dx []) ∧ ∀ H', H' p = some (.ins C dx ((namesV j).zip xs)) → (∀ b, b ≠ p → H' b = H b) → Q .non H'
section
variable {P : Program} {w : World} {K : PySem.W.Frag} {mg : Str → Option Value} {base : Heap} {C : Addr} {Cs : Nat → Addr}
theorem ok_in1 {f : Addr} {fd : FuncData} (F : Fun K "__init__" "Float.__init__" sIn1 f fd) (c : Cls K (Cs 1)) (n1 : NoAttr K (Cs 1) "mantissa") (n2 : NoAttr K (Cs 1) "exponent") : FnOk P w K mg base CX0 1 f fd ["self", "mantissa", "exponent"] (spIniW (Cs 1) 1) := by
  refine F.ok scIn1 (fun vs H Q E h => ?_) (fun cdv A outer s H vs Q E hr h => ?_)
  · obtain ⟨p, dx, xs, rfl, hl, _⟩ := h
    show xs.length + 1 = 3
    rw [hl]; rfl
  obtain ⟨p, dx, xs, rfl, hl, hp, q⟩ := h
  obtain ⟨x0, x1, rfl⟩ : ∃ a b, xs = [a, b] := match xs, hl with | [a, b], _ => ⟨a, b, rfl⟩
  refine ⟨_, pss_cons (ps_fld (pv 0) (pv 1) rfl) (pss_one (ps_fld (pv 0) (pv 2) rfl)), ?_⟩
  refine ⟨_, rfl, _, rfl, p, Cs 1, dx, _, rfl, hp, c, n1, by show 0 < 1000; decide, ?_⟩
  refine ⟨_, rfl, _, rfl, p, Cs 1, dx, _, rfl, upd_same, c, n2, by show 1 < 1000; decide, ?_⟩
  exact q _ upd_same fun b h => by rw [upd_ne h, upd_ne h]
theorem ok_in2 {f : Addr} {fd : FuncData} (F : Fun K "__init__" "Imaginary.__init__" sIn2 f fd) (c : Cls K (Cs 2)) (n1 : NoAttr K (Cs 2) "number") : FnOk P w K mg base CX0 1 f fd ["self", "number"] (spIniW (Cs 2) 2) := by
  refine F.ok scIn2 (fun vs H Q E h => ?_) (fun cdv A outer s H vs Q E hr h => ?_)
  · obtain ⟨p, dx, xs, rfl, hl, _⟩ := h
    show xs.length + 1 = 2
    rw [hl]; rfl
  obtain ⟨p, dx, xs, rfl, hl, hp, q⟩ := h
  obtain ⟨x0, rfl⟩ : ∃ a, xs = [a] := match xs, hl with | [a], _ => ⟨a, rfl⟩
  refine ⟨_, pss_one (ps_fld (pv 0) (pv 1) rfl), ?_⟩
  refine ⟨_, rfl, _, rfl, p, Cs 2, dx, _, rfl, hp, c, n1, by show 0 < 1000; decide, ?_⟩
  exact q _ upd_same fun b h => by rw [upd_ne h]
theorem ok_in3 {f : Addr} {fd : FuncData} (F : Fun K "__init__" "Octets.__init__" sIn3 f fd) (c : Cls K (Cs 3)) (n1 : NoAttr K (Cs 3) "numbers") : FnOk P w K mg base CX0 1 f fd ["self", "numbers"] (spIniW (Cs 3) 3) := by
  refine F.ok scIn3 (fun vs H Q E h => ?_) (fun cdv A outer s H vs Q E hr h => ?_)
  · obtain ⟨p, dx, xs, rfl, hl, _⟩ := h
    show xs.length + 1 = 2
    rw [hl]; rfl
  obtain ⟨p, dx, xs, rfl, hl, hp, q⟩ := h
  obtain ⟨x0, rfl⟩ : ∃ a, xs = [a] := match xs, hl with | [a], _ => ⟨a, rfl⟩
  refine ⟨_, pss_one (ps_fld (pv 0) (pv 1) rfl), ?_⟩
  refine ⟨_, rfl, _, rfl, p, Cs 3, dx, _, rfl, hp, c, n1, by show 0 < 1000; decide, ?_⟩
  exact q _ upd_same fun b h => by rw [upd_ne h]
structure Mks (P : Program) (w : World) (K : PySem.W.Frag) (mg : Str → Option Value) (base : Heap) (Cs fI : Nat → Addr) (fdI : Nat → FuncData) : Prop where
  g0 : mg "Dots" = some (.ref (Cs 0))
  g1 : mg "Float" = some (.ref (Cs 1))
  g2 : mg "Imaginary" = some (.ref (Cs 2))
  g3 : mg "Octets" = some (.ref (Cs 3))
  mk0 : PySem.W.makesIn K (Cs 0) = true
  i0 : PySem.W.findIn K (.ref (Cs 0)) "__init__" = some (some (.builtin "object.__init__"))
  o0 : PySem.W.mroIn K (Cs 0) (.type "object") = some true
  k0 : PySem.W.keepIn K (.ref (Cs 0)) = true
  mk1 : Mk K (Cs 1) (fI 1)
  mk2 : Mk K (Cs 2) (fI 2)
  mk3 : Mk K (Cs 3) (fI 3)
  f1 : FnOk P w K mg base CX0 1 (fI 1) (fdI 1) ["self", "mantissa", "exponent"] (spIniW (Cs 1) 1)
  f2 : FnOk P w K mg base CX0 1 (fI 2) (fdI 2) ["self", "number"] (spIniW (Cs 2) 2)
  f3 : FnOk P w K mg base CX0 1 (fI 3) (fdI 3) ["self", "numbers"] (spIniW (Cs 3) 3)
  b1 : Binds K (fdI 1) ["self", "mantissa", "exponent"] []
  b2 : Binds K (fdI 2) ["self", "number"] []
  b3 : Binds K (fdI 3) ["self", "numbers"] []
end
/-- what never changes: objects of classes, tuples -/
def isI : HO → Bool
  | .ins _ _ _ => true
  | .tup _ => true
  | _ => false
/-- the fields of an object of the j-th class -/
def CFs (Cs : Nat → Addr) (H : Hp) (j : Nat) (fs : List (Str × V)) : Prop := match j with
  | 0 => fs = []
  | 1 => ∃ a b : Int, fs = ([("mantissa", .int a), ("exponent", .int b)] : List (Str × V))
  | 2 => ∃ (q dx : Addr) (a b : Int), fs = ([("number", .ref q)] : List (Str × V)) ∧ H q = some (.ins (Cs 1) dx [("mantissa", .int a), ("exponent", .int b)])
  | _ => ∃ (t : Addr) (is : List Int), fs = ([("numbers", .ref t)] : List (Str × V)) ∧ H t = some (.tup (is.map V.int))
section
variable {Cs : Nat → Addr} {H H' : Hp}
theorem CFs.dots : CFs Cs H 0 [] := rfl
theorem CFs.flt {a b : Int} : CFs Cs H 1 ((namesV 1).zip [.int a, .int b]) := ⟨a, b, rfl⟩
theorem CFs.img {q dx : Addr} {a b : Int} (h : H q = some (.ins (Cs 1) dx ((namesV 1).zip [.int a, .int b]))) : CFs Cs H 2 ((namesV 2).zip [.ref q]) := ⟨q, dx, a, b, rfl, h⟩
theorem CFs.oct {t : Addr} (is : List Int) (h : H t = some (.tup (is.map V.int))) : CFs Cs H 3 ((namesV 3).zip [.ref t]) := ⟨t, is, rfl, h⟩
theorem CFs.map {j : Nat} {fs : List (Str × V)} (k : ∀ b o, isI o = true → H b = some o → H' b = some o) (h : CFs Cs H j fs) : CFs Cs H' j fs := by
  rcases j with _ | _ | _ | j
  · exact h
  · exact h
  · obtain ⟨q, dx, a, b, e, g⟩ := h
    exact ⟨q, dx, a, b, e, k _ _ rfl g⟩
  · obtain ⟨t, is, e, g⟩ := h
    exact ⟨t, is, e, k _ _ rfl g⟩
end
/-- a constant: an atom, or an object of one of the four classes -/
inductive Cst (Cs : Nat → Addr) (H : Hp) : V → Prop
  | non : Cst Cs H .non
  | bl (b : Bool) : Cst Cs H (.bl b)
  | int (i : Int) : Cst Cs H (.int i)
  | str (x : Str) : Cst Cs H (.str x)
  | obj {p dx : Addr} {j : Nat} {fs : List (Str × V)} (hj : j < 4) (h : H p = some (.ins (Cs j) dx fs)) (hf : CFs Cs H j fs) : Cst Cs H (.ref p)
theorem Cst.map {Cs : Nat → Addr} {H H' : Hp} {v : V} (k : ∀ b o, isI o = true → H b = some o → H' b = some o) (h : Cst Cs H v) : Cst Cs H' v := by
  cases h with
  | non => exact .non
  | bl b => exact .bl b
  | int i => exact .int i
  | str x => exact .str x
  | obj hj h hf => exact .obj hj (k _ _ rfl h) (hf.map k)
theorem Cst.up {Cs : Nat → Addr} {H H' : Hp} {v : V} (h : Cst Cs H v) (s : Same H H') : Cst Cs H' v := h.map fun b o _ e => s b o e
/-- what was made so far: pairs of a constant and a text -/
structure Acc (Cs : Nat → Addr) (H0 H : Hp) (ts : List Addr) : Prop where
  sm : Same H0 H
  at_ : ∀ t ∈ ts, ∃ v x, H t = some (.tup [v, .str x]) ∧ Cst Cs H v
theorem Acc.start {Cs : Nat → Addr} (H : Hp) : Acc Cs H H [] := ⟨Same.refl _, fun t h => by cases h⟩
theorem Acc.up {Cs : Nat → Addr} {H0 H H' : Hp} {ts : List Addr} (A : Acc Cs H0 H ts) (s : Same H H') : Acc Cs H0 H' ts :=
  ⟨A.sm.trans s, fun t h => by obtain ⟨v, x, h1, h2⟩ := A.at_ t h; exact ⟨v, x, s _ _ h1, h2.up s⟩⟩
theorem Acc.tup {Cs : Nat → Addr} {H0 H : Hp} {ts : List Addr} {T : Addr} {v : V} {x : Str} (A : Acc Cs H0 H ts) (n : H T = none) (c : Cst Cs H v) : Acc Cs H0 (upd H T (.tup [v, .str x])) (ts ++ [T]) := by
  have s : Same H (upd H T (.tup [v, .str x])) := same_new n
  refine ⟨A.sm.trans s, fun t h => ?_⟩
  rcases List.mem_append.mp h with h | h
  · exact (A.up s).at_ t h
  · rw [List.mem_singleton.mp h]
    exact ⟨v, x, upd_same, c.up s⟩
theorem made_same {H H' : Hp} {x dx C : Addr} (nx : H x = none) (nd : H dx = none) (ne : dx ≠ x) (k : ∀ b, b ≠ x → H' b = (upd (upd H dx (.own x)) x (.ins C dx [])) b) : Same H H' := fun b o e => by
  rw [k b (ne_of_none e nx), upd_ne (ne_of_none e nx), upd_ne (ne_of_none e nd)]
  exact e
theorem made_same0 {H : Hp} {x dx C : Addr} (nx : H x = none) (nd : H dx = none) : Same H (upd (upd H dx (.own x)) x (.ins C dx [])) := fun b o e => by
  rw [upd_ne (ne_of_none e nx), upd_ne (ne_of_none e nd)]
  exact e
end M4

namespace M4
open PySem PySem.Spec PyProof.Rows L2 StX
theorem op_mulS {X : Cx} : OpR X (binaryOp .Mult) (fun x y H Q => ∃ (z : Str) (n : Int), x = .str z ∧ y = .int n ∧ PySem.MulOk z n ∧ Q (.str (Txt.mul z n)) H) := by
  intro pins s σ H x y v u Q I rx ry h
  obtain ⟨z, n, rfl, rfl, hz, q⟩ := h
  obtain ⟨t, rfl⟩ := rx
  obtain ⟨t', rfl⟩ := ry
  exact PySem.SB.mul hz (fun t' k => ⟨.str (Txt.mul z n), H, I.tok _, ⟨_, rfl⟩, q⟩)
theorem mul_ok : PySem.MulOk ("0" : Str) 40 := ⟨by decide +kernel, fun _ _ => by decide +kernel, fun _ _ => by decide +kernel⟩
abbrev sCn : Stmt := topS 30
theorem scCn : FnScope ["_law_some"] [] (defScope sCn) := ⟨rfl, rfl, rfl, by decide +kernel, rfl, by decide +kernel, by decide +kernel⟩
def spCn (Cs : Nat → Addr) : Sp := fun vs H Q _ => vs = [] ∧ ∀ (H' : Hp) (q : Addr) (ts : List Addr), Same H H' → H q = none → H' q = some (.lst (ts.map V.ref)) → ts.length = 22 → (∀ t ∈ ts, ∃ v x, H' t = some (.tup [v, .str x]) ∧ Cst Cs H' v) → Q (.ref q) H'
theorem ok_cn {P : Program} {w : World} {K : PySem.W.Frag} {mg : Str → Option Value} {base : Heap} {Cs fI : Nat → Addr} {fdI : Nat → FuncData} {f : Addr} {fd : FuncData} (F : Fun K "_law_constants" "_law_constants" sCn f fd) (M : Mks P w K mg base Cs fI fdI) : FnOk P w K mg base CX0 3 f fd [] (spCn Cs) := by
  refine F.ok scCn (fun vs H Q E h => ?_) (fun cdv A outer s H vs Q E hr h => ?_)
  · rw [h.1]; rfl
  obtain ⟨rfl, q⟩ := h
  refine ⟨_, pss_cons (ps_set (i := 0) scCn.nd rfl (.inl rfl) (pe_lst (pa_cons (pe_tup (pa_cons pe_non (pa_cons pe_str pa_nil))) (pa_cons (pe_tup (pa_cons pe_bl (pa_cons pe_str pa_nil))) (pa_cons (pe_tup (pa_cons pe_bl (pa_cons pe_str pa_nil))) (pa_cons (pe_tup (pa_cons pe_int (pa_cons pe_str pa_nil))) (pa_cons (pe_tup (pa_cons pe_int (pa_cons pe_str pa_nil))) (pa_cons (pe_tup (pa_cons pe_int (pa_cons pe_str pa_nil))) (pa_cons (pe_tup (pa_cons pe_str (pa_cons pe_str pa_nil))) pa_nil)))))))))
    (pss_cons (ps_set (i := 0) scCn.nd rfl (.inl rfl) (pe_op op_cat (pv 0) (pe_lst (pa_cons (pe_tup (pa_cons pe_str (pa_cons pe_str pa_nil))) (pa_cons (pe_tup (pa_cons (pe_make M.mk1 M.f1 hr rfl M.g1 M.b1 .nil pass0 (pa_cons pe_int (pa_cons (pe_un un_neg pe_int) pa_nil))) (pa_cons pe_str pa_nil))) (pa_cons (pe_tup (pa_cons (pe_make M.mk1 M.f1 hr rfl M.g1 M.b1 .nil pass0 (pa_cons pe_int (pa_cons pe_int pa_nil))) (pa_cons pe_str pa_nil))) (pa_cons (pe_tup (pa_cons (pe_makeE M.mk0 M.i0 M.o0 M.k0 rfl M.g0) (pa_cons pe_str pa_nil))) pa_nil)))))))
    (pss_cons (ps_set (i := 0) scCn.nd rfl (.inl rfl) (pe_op op_cat (pv 0) (pe_lst (pa_cons (pe_tup (pa_cons pe_str (pa_cons pe_str pa_nil))) (pa_cons (pe_tup (pa_cons pe_str (pa_cons pe_str pa_nil))) (pa_cons (pe_tup (pa_cons pe_str (pa_cons pe_str pa_nil))) (pa_cons (pe_tup (pa_cons (pe_op op_pow pe_int pe_int) (pa_cons (pe_op op_add_str pe_str (pe_op op_mulS pe_str pe_int)) pa_nil))) pa_nil)))))))
    (pss_cons (ps_set (i := 0) scCn.nd rfl (.inl rfl) (pe_op op_cat (pv 0) (pe_lst (pa_cons (pe_tup (pa_cons pe_str (pa_cons pe_str pa_nil))) pa_nil))))
    (pss_cons (ps_set (i := 0) scCn.nd rfl (.inl rfl) (pe_op op_cat (pv 0) (pe_lst (pa_cons (pe_tup (pa_cons (pe_make M.mk2 M.f2 hr rfl M.g2 M.b2 .nil pass0 (pa_cons (pe_make M.mk1 M.f1 hr rfl M.g1 M.b1 .nil pass0 (pa_cons pe_int (pa_cons pe_int pa_nil))) pa_nil)) (pa_cons pe_str pa_nil))) (pa_cons (pe_tup (pa_cons (pe_make M.mk2 M.f2 hr rfl M.g2 M.b2 .nil pass0 (pa_cons (pe_make M.mk1 M.f1 hr rfl M.g1 M.b1 .nil pass0 (pa_cons pe_int (pa_cons pe_int pa_nil))) pa_nil)) (pa_cons pe_str pa_nil))) (pa_cons (pe_tup (pa_cons (pe_make M.mk3 M.f3 hr rfl M.g3 M.b3 .nil pass0 (pa_cons (pe_tup (pa_cons pe_int (pa_cons pe_int pa_nil))) pa_nil)) (pa_cons pe_str pa_nil))) pa_nil))))))
    (pss_cons (ps_set (i := 0) scCn.nd rfl (.inl rfl) (pe_op op_cat (pv 0) (pe_lst (pa_cons (pe_tup (pa_cons (pe_make M.mk3 M.f3 hr rfl M.g3 M.b3 .nil pass0 (pa_cons (pe_tup (pa_cons pe_int (pa_cons pe_int (pa_cons pe_int (pa_cons pe_int (pa_cons pe_int pa_nil)))))) pa_nil)) (pa_cons pe_str pa_nil))) pa_nil))))
    (pss_one (ps_ret (pe_op op_cat (pv 0) (pe_lst (pa_cons (pe_tup (pa_cons (pe_make M.mk3 M.f3 hr rfl M.g3 M.b3 .nil pass0 (pa_cons (pe_tup pa_nil) pa_nil)) (pa_cons pe_str pa_nil))) (pa_cons (pe_tup (pa_cons (pe_make M.mk1 M.f1 hr rfl M.g1 M.b1 .nil pass0 (pa_cons pe_int (pa_cons pe_int pa_nil))) (pa_cons pe_str pa_nil))) pa_nil))))))))))), ?_⟩
  have A1 := Acc.start (Cs := Cs) H
  refine ⟨by show 2 ≤ sizeLine; decide, fun T2 nT2 => ?_⟩
  have A2 := A1.tup (v := .non) (x := "None") nT2 (.non)
  generalize upd H T2 (.tup [.non, .str "None"]) = H1 at A2 ⊢
  refine ⟨by show 2 ≤ sizeLine; decide, fun T3 nT3 => ?_⟩
  have A3 := A2.tup (v := .bl true) (x := "True") nT3 (.bl _)
  generalize upd H1 T3 (.tup [.bl true, .str "True"]) = H2 at A3 ⊢
  refine ⟨by show 2 ≤ sizeLine; decide, fun T4 nT4 => ?_⟩
  have A4 := A3.tup (v := .bl false) (x := "False") nT4 (.bl _)
  generalize upd H2 T4 (.tup [.bl false, .str "False"]) = H3 at A4 ⊢
  refine ⟨by show 2 ≤ sizeLine; decide, fun T5 nT5 => ?_⟩
  have A5 := A4.tup (v := .int 0) (x := "0") nT5 (.int _)
  generalize upd H3 T5 (.tup [.int 0, .str "0"]) = H4 at A5 ⊢
  refine ⟨by show 2 ≤ sizeLine; decide, fun T6 nT6 => ?_⟩
  have A6 := A5.tup (v := .int 1) (x := "1") nT6 (.int _)
  generalize upd H4 T6 (.tup [.int 1, .str "1"]) = H5 at A6 ⊢
  refine ⟨by show 2 ≤ sizeLine; decide, fun T7 nT7 => ?_⟩
  have A7 := A6.tup (v := .int 17) (x := "17") nT7 (.int _)
  generalize upd H5 T7 (.tup [.int 17, .str "17"]) = H6 at A7 ⊢
  refine ⟨by show 2 ≤ sizeLine; decide, fun T8 nT8 => ?_⟩
  have A8 := A7.tup (v := .str "") (x := "''") nT8 (.str _)
  generalize upd H6 T8 (.tup [.str "", .str "''"]) = H7 at A8 ⊢
  refine ⟨by show 7 ≤ sizeLine; decide, fun L9 nL9 => ?_⟩
  have A9 := A8.up (same_new (o := .lst [.ref T2, .ref T3, .ref T4, .ref T5, .ref T6, .ref T7, .ref T8]) nL9)
  have l9 : (upd H7 L9 (.lst [.ref T2, .ref T3, .ref T4, .ref T5, .ref T6, .ref T7, .ref T8])) L9 = some (.lst [.ref T2, .ref T3, .ref T4, .ref T5, .ref T6, .ref T7, .ref T8]) := upd_same
  generalize upd H7 L9 (.lst [.ref T2, .ref T3, .ref T4, .ref T5, .ref T6, .ref T7, .ref T8]) = H8 at A9 l9 ⊢
  refine ⟨_, rfl, ?_⟩
  have S10 := (Same.refl H).trans A9.sm
  have A10 : Acc Cs H8 H8 _ := ⟨Same.refl _, A9.at_⟩
  refine ⟨by show 2 ≤ sizeLine; decide, fun T11 nT11 => ?_⟩
  have A11 := A10.tup (v := .str "a b") (x := "'a b'") nT11 (.str _)
  generalize upd H8 T11 (.tup [.str "a b", .str "'a b'"]) = H9 at A11 ⊢
  refine ⟨_, rfl, fun x12 d12 nx12 nd12 ne12 => ⟨x12, d12, _, rfl, rfl, upd_same, fun H10 o12 k12 => ⟨rfl, ?_⟩⟩⟩
  have s12 := made_same nx12 nd12 ne12 k12
  have A12 := A11.up s12
  have c12 : Cst Cs H10 (.ref x12) := .obj (j := 1) (by decide) o12 .flt
  refine ⟨by show 2 ≤ sizeLine; decide, fun T13 nT13 => ?_⟩
  have A13 := A12.tup (v := .ref x12) (x := "0.5") nT13 (c12)
  generalize upd H10 T13 (.tup [.ref x12, .str "0.5"]) = H11 at A13 ⊢
  refine fun x14 d14 nx14 nd14 ne14 => ⟨x14, d14, _, rfl, rfl, upd_same, fun H12 o14 k14 => ⟨rfl, ?_⟩⟩
  have s14 := made_same nx14 nd14 ne14 k14
  have A14 := A13.up s14
  have c14 : Cst Cs H12 (.ref x14) := .obj (j := 1) (by decide) o14 .flt
  refine ⟨by show 2 ≤ sizeLine; decide, fun T15 nT15 => ?_⟩
  have A15 := A14.tup (v := .ref x14) (x := "1e309") nT15 (c14)
  generalize upd H12 T15 (.tup [.ref x14, .str "1e309"]) = H13 at A15 ⊢
  refine fun x16 d16 nx16 nd16 ne16 => ?_
  have s16 : Same H13 (upd (upd H13 d16 (.own x16)) x16 (.ins (Cs 0) d16 [])) := made_same0 nx16 nd16
  have o16 : (upd (upd H13 d16 (.own x16)) x16 (.ins (Cs 0) d16 [])) x16 = some (.ins (Cs 0) d16 []) := upd_same
  generalize upd (upd H13 d16 (.own x16)) x16 (.ins (Cs 0) d16 []) = H14 at s16 o16 ⊢
  have A16 := A15.up s16
  have c16 : Cst Cs H14 (.ref x16) := .obj (j := 0) (by decide) o16 .dots
  refine ⟨by show 2 ≤ sizeLine; decide, fun T17 nT17 => ?_⟩
  have A17 := A16.tup (v := .ref x16) (x := "...") nT17 (c16)
  generalize upd H14 T17 (.tup [.ref x16, .str "..."]) = H15 at A17 ⊢
  refine ⟨by show 4 ≤ sizeLine; decide, fun L18 nL18 => ⟨L9, L18, [.ref T2, .ref T3, .ref T4, .ref T5, .ref T6, .ref T7, .ref T8], [.ref T11, .ref T13, .ref T15, .ref T17], rfl, rfl, (same_new nL18) _ _ (A17.sm _ _ l9), upd_same, by show 7 + 4 ≤ sizeLine; decide, fun M18 nM18 => ?_⟩⟩
  have A18 := (A17.up (same_new (o := .lst [.ref T11, .ref T13, .ref T15, .ref T17]) nL18)).up (same_new (o := .lst ([.ref T2, .ref T3, .ref T4, .ref T5, .ref T6, .ref T7, .ref T8] ++ [.ref T11, .ref T13, .ref T15, .ref T17])) nM18)
  have l18 : (upd (upd H15 L18 (.lst [.ref T11, .ref T13, .ref T15, .ref T17])) M18 (.lst ([.ref T2, .ref T3, .ref T4, .ref T5, .ref T6, .ref T7, .ref T8] ++ [.ref T11, .ref T13, .ref T15, .ref T17]))) M18 = some (.lst [.ref T2, .ref T3, .ref T4, .ref T5, .ref T6, .ref T7, .ref T8, .ref T11, .ref T13, .ref T15, .ref T17]) := upd_same
  generalize upd (upd H15 L18 (.lst [.ref T11, .ref T13, .ref T15, .ref T17])) M18 (.lst ([.ref T2, .ref T3, .ref T4, .ref T5, .ref T6, .ref T7, .ref T8] ++ [.ref T11, .ref T13, .ref T15, .ref T17])) = H16 at A18 l18 ⊢
  refine ⟨_, rfl, ?_⟩
  have S19 := S10.trans A18.sm
  have A19 : Acc Cs H16 H16 _ := ⟨Same.refl _, A18.at_⟩
  refine ⟨by show 2 ≤ sizeLine; decide, fun T20 nT20 => ?_⟩
  have A20 := A19.tup (v := .str "it's") (x := "\"it's\"") nT20 (.str _)
  generalize upd H16 T20 (.tup [.str "it's", .str "\"it's\""]) = H17 at A20 ⊢
  refine ⟨by show 2 ≤ sizeLine; decide, fun T21 nT21 => ?_⟩
  have A21 := A20.tup (v := .str "say \"a\"") (x := "'say \"a\"'") nT21 (.str _)
  generalize upd H17 T21 (.tup [.str "say \"a\"", .str "'say \"a\"'"]) = H18 at A21 ⊢
  refine ⟨by show 2 ≤ sizeLine; decide, fun T22 nT22 => ?_⟩
  have A22 := A21.tup (v := .str "'\"") (x := "'\\'\"'") nT22 (.str _)
  generalize upd H18 T22 (.tup [.str "'\"", .str "'\\'\"'"]) = H19 at A22 ⊢
  refine ⟨_, _, rfl, rfl, ⟨by decide, by decide, by decide⟩, ?_⟩
  refine ⟨_, _, rfl, rfl, mul_ok, _, _, rfl, rfl, by decide +kernel, ?_⟩
  refine ⟨by show 2 ≤ sizeLine; decide, fun T23 nT23 => ?_⟩
  have A23 := A22.tup (v := .int (10 ^ (40 : Int).toNat)) (x := ("1" ++ Txt.mul "0" 40)) nT23 (.int _)
  generalize upd H19 T23 (.tup [.int (10 ^ (40 : Int).toNat), .str ("1" ++ Txt.mul "0" 40)]) = H20 at A23 ⊢
  refine ⟨by show 4 ≤ sizeLine; decide, fun L24 nL24 => ⟨M18, L24, [.ref T2, .ref T3, .ref T4, .ref T5, .ref T6, .ref T7, .ref T8, .ref T11, .ref T13, .ref T15, .ref T17], [.ref T20, .ref T21, .ref T22, .ref T23], rfl, rfl, (same_new nL24) _ _ (A23.sm _ _ l18), upd_same, by show 11 + 4 ≤ sizeLine; decide, fun M24 nM24 => ?_⟩⟩
  have A24 := (A23.up (same_new (o := .lst [.ref T20, .ref T21, .ref T22, .ref T23]) nL24)).up (same_new (o := .lst ([.ref T2, .ref T3, .ref T4, .ref T5, .ref T6, .ref T7, .ref T8, .ref T11, .ref T13, .ref T15, .ref T17] ++ [.ref T20, .ref T21, .ref T22, .ref T23])) nM24)
  have l24 : (upd (upd H20 L24 (.lst [.ref T20, .ref T21, .ref T22, .ref T23])) M24 (.lst ([.ref T2, .ref T3, .ref T4, .ref T5, .ref T6, .ref T7, .ref T8, .ref T11, .ref T13, .ref T15, .ref T17] ++ [.ref T20, .ref T21, .ref T22, .ref T23]))) M24 = some (.lst [.ref T2, .ref T3, .ref T4, .ref T5, .ref T6, .ref T7, .ref T8, .ref T11, .ref T13, .ref T15, .ref T17, .ref T20, .ref T21, .ref T22, .ref T23]) := upd_same
  generalize upd (upd H20 L24 (.lst [.ref T20, .ref T21, .ref T22, .ref T23])) M24 (.lst ([.ref T2, .ref T3, .ref T4, .ref T5, .ref T6, .ref T7, .ref T8, .ref T11, .ref T13, .ref T15, .ref T17] ++ [.ref T20, .ref T21, .ref T22, .ref T23])) = H21 at A24 l24 ⊢
  refine ⟨_, rfl, ?_⟩
  have S25 := S19.trans A24.sm
  have A25 : Acc Cs H21 H21 _ := ⟨Same.refl _, A24.at_⟩
  refine ⟨by show 2 ≤ sizeLine; decide, fun T26 nT26 => ?_⟩
  have A26 := A25.tup (v := .str "a\\b\n\tc") (x := "'a\\\\b\\n\\tc'") nT26 (.str _)
  generalize upd H21 T26 (.tup [.str "a\\b\n\tc", .str "'a\\\\b\\n\\tc'"]) = H22 at A26 ⊢
  refine ⟨by show 1 ≤ sizeLine; decide, fun L27 nL27 => ⟨M24, L27, [.ref T2, .ref T3, .ref T4, .ref T5, .ref T6, .ref T7, .ref T8, .ref T11, .ref T13, .ref T15, .ref T17, .ref T20, .ref T21, .ref T22, .ref T23], [.ref T26], rfl, rfl, (same_new nL27) _ _ (A26.sm _ _ l24), upd_same, by show 15 + 1 ≤ sizeLine; decide, fun M27 nM27 => ?_⟩⟩
  have A27 := (A26.up (same_new (o := .lst [.ref T26]) nL27)).up (same_new (o := .lst ([.ref T2, .ref T3, .ref T4, .ref T5, .ref T6, .ref T7, .ref T8, .ref T11, .ref T13, .ref T15, .ref T17, .ref T20, .ref T21, .ref T22, .ref T23] ++ [.ref T26])) nM27)
  have l27 : (upd (upd H22 L27 (.lst [.ref T26])) M27 (.lst ([.ref T2, .ref T3, .ref T4, .ref T5, .ref T6, .ref T7, .ref T8, .ref T11, .ref T13, .ref T15, .ref T17, .ref T20, .ref T21, .ref T22, .ref T23] ++ [.ref T26]))) M27 = some (.lst [.ref T2, .ref T3, .ref T4, .ref T5, .ref T6, .ref T7, .ref T8, .ref T11, .ref T13, .ref T15, .ref T17, .ref T20, .ref T21, .ref T22, .ref T23, .ref T26]) := upd_same
  generalize upd (upd H22 L27 (.lst [.ref T26])) M27 (.lst ([.ref T2, .ref T3, .ref T4, .ref T5, .ref T6, .ref T7, .ref T8, .ref T11, .ref T13, .ref T15, .ref T17, .ref T20, .ref T21, .ref T22, .ref T23] ++ [.ref T26])) = H23 at A27 l27 ⊢
  refine ⟨_, rfl, ?_⟩
  have S28 := S25.trans A27.sm
  have A28 : Acc Cs H23 H23 _ := ⟨Same.refl _, A27.at_⟩
  refine fun x30 d30 nx30 nd30 ne30 => ⟨x30, d30, _, rfl, rfl, upd_same, fun H24 o30 k30 => ⟨rfl, ?_⟩⟩
  have s30 := made_same nx30 nd30 ne30 k30
  have A30 := A28.up s30
  have c30 : Cst Cs H24 (.ref x30) := .obj (j := 1) (by decide) o30 .flt
  refine fun x29 d29 nx29 nd29 ne29 => ⟨x29, d29, _, rfl, rfl, upd_same, fun H25 o29 k29 => ⟨rfl, ?_⟩⟩
  have s29 := made_same nx29 nd29 ne29 k29
  have A29 := A30.up s29
  have c29 : Cst Cs H25 (.ref x29) := .obj (j := 2) (by decide) o29 (.img (s29 _ _ o30))
  refine ⟨by show 2 ≤ sizeLine; decide, fun T31 nT31 => ?_⟩
  have A31 := A29.tup (v := .ref x29) (x := "3j") nT31 (c29)
  generalize upd H25 T31 (.tup [.ref x29, .str "3j"]) = H26 at A31 ⊢
  refine fun x33 d33 nx33 nd33 ne33 => ⟨x33, d33, _, rfl, rfl, upd_same, fun H27 o33 k33 => ⟨rfl, ?_⟩⟩
  have s33 := made_same nx33 nd33 ne33 k33
  have A33 := A31.up s33
  have c33 : Cst Cs H27 (.ref x33) := .obj (j := 1) (by decide) o33 .flt
  refine fun x32 d32 nx32 nd32 ne32 => ⟨x32, d32, _, rfl, rfl, upd_same, fun H28 o32 k32 => ⟨rfl, ?_⟩⟩
  have s32 := made_same nx32 nd32 ne32 k32
  have A32 := A33.up s32
  have c32 : Cst Cs H28 (.ref x32) := .obj (j := 2) (by decide) o32 (.img (s32 _ _ o33))
  refine ⟨by show 2 ≤ sizeLine; decide, fun T34 nT34 => ?_⟩
  have A34 := A32.tup (v := .ref x32) (x := "0j") nT34 (c32)
  generalize upd H28 T34 (.tup [.ref x32, .str "0j"]) = H29 at A34 ⊢
  refine ⟨by show 2 ≤ sizeLine; decide, fun t36 nt36 => ?_⟩
  have A36 := A34.up (same_new (o := .tup [.int 97, .int 39]) nt36)
  have u36 : (upd H29 t36 (.tup [.int 97, .int 39])) t36 = some (.tup [.int 97, .int 39]) := upd_same
  generalize upd H29 t36 (.tup [.int 97, .int 39]) = H30 at A36 u36 ⊢
  refine fun x35 d35 nx35 nd35 ne35 => ⟨x35, d35, _, rfl, rfl, upd_same, fun H31 o35 k35 => ⟨rfl, ?_⟩⟩
  have s35 := made_same nx35 nd35 ne35 k35
  have A35 := A36.up s35
  have c35 : Cst Cs H31 (.ref x35) := .obj (j := 3) (by decide) o35 (.oct [97, 39] (s35 _ _ u36))
  refine ⟨by show 2 ≤ sizeLine; decide, fun T37 nT37 => ?_⟩
  have A37 := A35.tup (v := .ref x35) (x := "b\"a'\"") nT37 (c35)
  generalize upd H31 T37 (.tup [.ref x35, .str "b\"a'\""]) = H32 at A37 ⊢
  refine ⟨by show 3 ≤ sizeLine; decide, fun L38 nL38 => ⟨M27, L38, [.ref T2, .ref T3, .ref T4, .ref T5, .ref T6, .ref T7, .ref T8, .ref T11, .ref T13, .ref T15, .ref T17, .ref T20, .ref T21, .ref T22, .ref T23, .ref T26], [.ref T31, .ref T34, .ref T37], rfl, rfl, (same_new nL38) _ _ (A37.sm _ _ l27), upd_same, by show 16 + 3 ≤ sizeLine; decide, fun M38 nM38 => ?_⟩⟩
  have A38 := (A37.up (same_new (o := .lst [.ref T31, .ref T34, .ref T37]) nL38)).up (same_new (o := .lst ([.ref T2, .ref T3, .ref T4, .ref T5, .ref T6, .ref T7, .ref T8, .ref T11, .ref T13, .ref T15, .ref T17, .ref T20, .ref T21, .ref T22, .ref T23, .ref T26] ++ [.ref T31, .ref T34, .ref T37])) nM38)
  have l38 : (upd (upd H32 L38 (.lst [.ref T31, .ref T34, .ref T37])) M38 (.lst ([.ref T2, .ref T3, .ref T4, .ref T5, .ref T6, .ref T7, .ref T8, .ref T11, .ref T13, .ref T15, .ref T17, .ref T20, .ref T21, .ref T22, .ref T23, .ref T26] ++ [.ref T31, .ref T34, .ref T37]))) M38 = some (.lst [.ref T2, .ref T3, .ref T4, .ref T5, .ref T6, .ref T7, .ref T8, .ref T11, .ref T13, .ref T15, .ref T17, .ref T20, .ref T21, .ref T22, .ref T23, .ref T26, .ref T31, .ref T34, .ref T37]) := upd_same
  generalize upd (upd H32 L38 (.lst [.ref T31, .ref T34, .ref T37])) M38 (.lst ([.ref T2, .ref T3, .ref T4, .ref T5, .ref T6, .ref T7, .ref T8, .ref T11, .ref T13, .ref T15, .ref T17, .ref T20, .ref T21, .ref T22, .ref T23, .ref T26] ++ [.ref T31, .ref T34, .ref T37])) = H33 at A38 l38 ⊢
  refine ⟨_, rfl, ?_⟩
  have S39 := S28.trans A38.sm
  have A39 : Acc Cs H33 H33 _ := ⟨Same.refl _, A38.at_⟩
  refine ⟨by show 5 ≤ sizeLine; decide, fun t41 nt41 => ?_⟩
  have A41 := A39.up (same_new (o := .tup [.int 0, .int 37, .int 255, .int 13, .int 10]) nt41)
  have u41 : (upd H33 t41 (.tup [.int 0, .int 37, .int 255, .int 13, .int 10])) t41 = some (.tup [.int 0, .int 37, .int 255, .int 13, .int 10]) := upd_same
  generalize upd H33 t41 (.tup [.int 0, .int 37, .int 255, .int 13, .int 10]) = H34 at A41 u41 ⊢
  refine fun x40 d40 nx40 nd40 ne40 => ⟨x40, d40, _, rfl, rfl, upd_same, fun H35 o40 k40 => ⟨rfl, ?_⟩⟩
  have s40 := made_same nx40 nd40 ne40 k40
  have A40 := A41.up s40
  have c40 : Cst Cs H35 (.ref x40) := .obj (j := 3) (by decide) o40 (.oct [0, 37, 255, 13, 10] (s40 _ _ u41))
  refine ⟨by show 2 ≤ sizeLine; decide, fun T42 nT42 => ?_⟩
  have A42 := A40.tup (v := .ref x40) (x := "b'\\x00\\x25\\xff\\r\\n'") nT42 (c40)
  generalize upd H35 T42 (.tup [.ref x40, .str "b'\\x00\\x25\\xff\\r\\n'"]) = H36 at A42 ⊢
  refine ⟨by show 1 ≤ sizeLine; decide, fun L43 nL43 => ⟨M38, L43, [.ref T2, .ref T3, .ref T4, .ref T5, .ref T6, .ref T7, .ref T8, .ref T11, .ref T13, .ref T15, .ref T17, .ref T20, .ref T21, .ref T22, .ref T23, .ref T26, .ref T31, .ref T34, .ref T37], [.ref T42], rfl, rfl, (same_new nL43) _ _ (A42.sm _ _ l38), upd_same, by show 19 + 1 ≤ sizeLine; decide, fun M43 nM43 => ?_⟩⟩
  have A43 := (A42.up (same_new (o := .lst [.ref T42]) nL43)).up (same_new (o := .lst ([.ref T2, .ref T3, .ref T4, .ref T5, .ref T6, .ref T7, .ref T8, .ref T11, .ref T13, .ref T15, .ref T17, .ref T20, .ref T21, .ref T22, .ref T23, .ref T26, .ref T31, .ref T34, .ref T37] ++ [.ref T42])) nM43)
  have l43 : (upd (upd H36 L43 (.lst [.ref T42])) M43 (.lst ([.ref T2, .ref T3, .ref T4, .ref T5, .ref T6, .ref T7, .ref T8, .ref T11, .ref T13, .ref T15, .ref T17, .ref T20, .ref T21, .ref T22, .ref T23, .ref T26, .ref T31, .ref T34, .ref T37] ++ [.ref T42]))) M43 = some (.lst [.ref T2, .ref T3, .ref T4, .ref T5, .ref T6, .ref T7, .ref T8, .ref T11, .ref T13, .ref T15, .ref T17, .ref T20, .ref T21, .ref T22, .ref T23, .ref T26, .ref T31, .ref T34, .ref T37, .ref T42]) := upd_same
  generalize upd (upd H36 L43 (.lst [.ref T42])) M43 (.lst ([.ref T2, .ref T3, .ref T4, .ref T5, .ref T6, .ref T7, .ref T8, .ref T11, .ref T13, .ref T15, .ref T17, .ref T20, .ref T21, .ref T22, .ref T23, .ref T26, .ref T31, .ref T34, .ref T37] ++ [.ref T42])) = H37 at A43 l43 ⊢
  refine ⟨_, rfl, ?_⟩
  have S44 := S39.trans A43.sm
  have A44 : Acc Cs H37 H37 _ := ⟨Same.refl _, A43.at_⟩
  refine ⟨by show 0 ≤ sizeLine; decide, fun t46 nt46 => ?_⟩
  have A46 := A44.up (same_new (o := .tup []) nt46)
  have u46 : (upd H37 t46 (.tup [])) t46 = some (.tup []) := upd_same
  generalize upd H37 t46 (.tup []) = H38 at A46 u46 ⊢
  refine fun x45 d45 nx45 nd45 ne45 => ⟨x45, d45, _, rfl, rfl, upd_same, fun H39 o45 k45 => ⟨rfl, ?_⟩⟩
  have s45 := made_same nx45 nd45 ne45 k45
  have A45 := A46.up s45
  have c45 : Cst Cs H39 (.ref x45) := .obj (j := 3) (by decide) o45 (.oct [] (s45 _ _ u46))
  refine ⟨by show 2 ≤ sizeLine; decide, fun T47 nT47 => ?_⟩
  have A47 := A45.tup (v := .ref x45) (x := "b''") nT47 (c45)
  generalize upd H39 T47 (.tup [.ref x45, .str "b''"]) = H40 at A47 ⊢
  refine fun x48 d48 nx48 nd48 ne48 => ⟨x48, d48, _, rfl, rfl, upd_same, fun H41 o48 k48 => ⟨rfl, ?_⟩⟩
  have s48 := made_same nx48 nd48 ne48 k48
  have A48 := A47.up s48
  have c48 : Cst Cs H41 (.ref x48) := .obj (j := 1) (by decide) o48 .flt
  refine ⟨by show 2 ≤ sizeLine; decide, fun T49 nT49 => ?_⟩
  have A49 := A48.tup (v := .ref x48) (x := "0.0") nT49 (c48)
  generalize upd H41 T49 (.tup [.ref x48, .str "0.0"]) = H42 at A49 ⊢
  refine ⟨by show 2 ≤ sizeLine; decide, fun L50 nL50 => ⟨M43, L50, [.ref T2, .ref T3, .ref T4, .ref T5, .ref T6, .ref T7, .ref T8, .ref T11, .ref T13, .ref T15, .ref T17, .ref T20, .ref T21, .ref T22, .ref T23, .ref T26, .ref T31, .ref T34, .ref T37, .ref T42], [.ref T47, .ref T49], rfl, rfl, (same_new nL50) _ _ (A49.sm _ _ l43), upd_same, by show 20 + 2 ≤ sizeLine; decide, fun M50 nM50 => ?_⟩⟩
  have A50 := (A49.up (same_new (o := .lst [.ref T47, .ref T49]) nL50)).up (same_new (o := .lst ([.ref T2, .ref T3, .ref T4, .ref T5, .ref T6, .ref T7, .ref T8, .ref T11, .ref T13, .ref T15, .ref T17, .ref T20, .ref T21, .ref T22, .ref T23, .ref T26, .ref T31, .ref T34, .ref T37, .ref T42] ++ [.ref T47, .ref T49])) nM50)
  have l50 : (upd (upd H42 L50 (.lst [.ref T47, .ref T49])) M50 (.lst ([.ref T2, .ref T3, .ref T4, .ref T5, .ref T6, .ref T7, .ref T8, .ref T11, .ref T13, .ref T15, .ref T17, .ref T20, .ref T21, .ref T22, .ref T23, .ref T26, .ref T31, .ref T34, .ref T37, .ref T42] ++ [.ref T47, .ref T49]))) M50 = some (.lst [.ref T2, .ref T3, .ref T4, .ref T5, .ref T6, .ref T7, .ref T8, .ref T11, .ref T13, .ref T15, .ref T17, .ref T20, .ref T21, .ref T22, .ref T23, .ref T26, .ref T31, .ref T34, .ref T37, .ref T42, .ref T47, .ref T49]) := upd_same
  have nF : H M50 = none := (S44.trans A49.sm).free ((same_new nL50).free nM50)
  exact q _ M50 [T2, T3, T4, T5, T6, T7, T8, T11, T13, T15, T17, T20, T21, T22, T23, T26, T31, T34, T37, T42, T47, T49] (S44.trans A50.sm) nF l50 (by show 22 = 22; rfl) A50.at_
end M4

namespace M4
open PySem PySem.Spec PyProof.Rows L2 StX
/-! ### models: dicts with a kind, parts and a spot -/
def seqTs : List Value := [.type "list", .type "tuple", .type "dict"]
/-- what the written part says of the classes of values -/
structure ValI (K : PySem.W.Frag) (C : Addr) (Cs : Nat → Addr) : Prop where
  cl : ∀ j, j < 4 → Cls K (Cs j)
  ha : ∀ j, j < 4 → PySem.W.findIn K (.ref (Cs j)) "__class__" = some (some (.builtin "object.__class__"))
  hn : PySem.W.specialIn K (.builtin "object.__class__") "__get__" = some (some (.builtin "getset_descriptor.__get__"))
  ht : PySem.W.takesIn K (.builtin "object.__class__") = some true
  hm : ∀ j, j < 4 → PySem.W.mroIn K (Cs j) (.type "object") = some true
  kt : ∀ j, j < 4 → ∀ T ∈ seqTs, PySem.W.kitOne K (.ref (Cs j)) T = some false
  kn : ∀ j, j < 4 → PySem.W.kitOne K (.ref (Cs j)) (.ref C) = some false
  nt : ∀ t ∈ ([.type "NoneType", .type "bool", .type "int", .type "str", .type "list", .type "tuple", .type "dict"] : List Value), PySem.W.kitOne K t (.ref C) = some false
  ne : ∀ j, j < 4 → Cs j ≠ C
theorem Cst.ty {K : PySem.W.Frag} {C : Addr} {Cs : Nat → Addr} {H : Hp} {v : V} (W : ValI K C Cs) (h : Cst Cs H v) : ∃ t, TyX K H v t ∧ PySem.W.kitOne K t (.ref C) = some false ∧ ∀ T ∈ seqTs, PySem.W.kitOne K t T = some false := by
  have b : ∀ t ∈ ([.type "NoneType", .type "bool", .type "int", .type "str"] : List Value), ∀ T ∈ seqTs, PySem.W.kitOne K t T = some false := by
    intro t ht T hT
    unfold seqTs at hT
    simp only [List.mem_cons, List.not_mem_nil, or_false] at ht hT
    rcases ht with rfl | rfl | rfl | rfl <;> rcases hT with rfl | rfl | rfl <;> exact kit_ty (by decide +kernel)
  cases h with
  | non => exact ⟨_, .base .non, W.nt _ (by simp), b _ (by simp)⟩
  | bl x => exact ⟨_, .base (.bl x), W.nt _ (by simp), b _ (by simp)⟩
  | int i => exact ⟨_, .base (.int i), W.nt _ (by simp), b _ (by simp)⟩
  | str x => exact ⟨_, .base (.str x), W.nt _ (by simp), b _ (by simp)⟩
  | obj hj h hf => exact ⟨_, .base (.ins h (W.cl _ hj) (W.ha _ hj) W.hn W.ht (W.hm _ hj)), W.kn _ hj, W.kt _ hj⟩
/-- the shape of a model, with where it stands -/
inductive MT where
  | md (d pl sp : Addr) (k : Str) (ps : List MT)
  | at_ (v : V)
  | ls (a : Addr) (ps : List MT)
  | tu (a : Addr) (ps : List MT)
def MT.val : MT → V
  | .md d _ _ _ _ => .ref d
  | .at_ v => v
  | .ls a _ => .ref a
  | .tu a _ => .ref a
/-- the dict of a model; nd: its node, where there is one -/
def mdKv (k : Str) (pl sp : Addr) (nd : Option Addr) : List (Key × V) := [(.inr "kind", .str k), (.inr "parts", .ref pl), (.inr "spot", .ref sp)] ++ (match nd with
  | some p => [(.inr "node", .ref p)]
  | none => [])
mutual
inductive MAt (Cs : Nat → Addr) (nd : Addr → Option Addr) (H : Hp) : MT → Prop
  | md {d pl sp : Addr} {k : Str} {ps : List MT} {xs : List V} : H d = some (.dK (mdKv k pl sp (nd d))) → H pl = some (.lst (ps.map MT.val)) → H sp = some (.lst xs) → xs.length = 4 → (∀ x ∈ xs, isNum x = true) → (Fld.lookup k).isSome = true → ps.length = (fieldsP k).length → MAtL Cs nd H ps → MAt Cs nd H (.md d pl sp k ps)
  | at_ {v : V} : Cst Cs H v → MAt Cs nd H (.at_ v)
  | ls {a : Addr} {ps : List MT} : H a = some (.lst (ps.map MT.val)) → ps.length ≤ 100 → MAtL Cs nd H ps → MAt Cs nd H (.ls a ps)
  | tu {a : Addr} {ps : List MT} : H a = some (.tup (ps.map MT.val)) → ps.length ≤ 100 → MAtL Cs nd H ps → MAt Cs nd H (.tu a ps)
inductive MAtL (Cs : Nat → Addr) (nd : Addr → Option Addr) (H : Hp) : List MT → Prop
  | nil : MAtL Cs nd H []
  | cons {m : MT} {ms : List MT} : MAt Cs nd H m → MAtL Cs nd H ms → MAtL Cs nd H (m :: ms)
end
mutual
theorem MAt.up {Cs : Nat → Addr} {nd : Addr → Option Addr} {H H' : Hp} (s : Same H H') : ∀ {m : MT}, MAt Cs nd H m → MAt Cs nd H' m
  | _, .md h1 h2 h3 h4 h5 h6 h7 h8 => .md (s _ _ h1) (s _ _ h2) (s _ _ h3) h4 h5 h6 h7 (h8.up s)
  | _, .at_ h => .at_ (h.up s)
  | _, .ls h l hs => .ls (s _ _ h) l (hs.up s)
  | _, .tu h l hs => .tu (s _ _ h) l (hs.up s)
theorem MAtL.up {Cs : Nat → Addr} {nd : Addr → Option Addr} {H H' : Hp} (s : Same H H') : ∀ {ms : List MT}, MAtL Cs nd H ms → MAtL Cs nd H' ms
  | _, .nil => .nil
  | _, .cons h hs => .cons (h.up s) (hs.up s)
end
theorem MAtL.mem {Cs : Nat → Addr} {nd : Addr → Option Addr} {H : Hp} : ∀ {ms : List MT}, MAtL Cs nd H ms → ∀ m ∈ ms, MAt Cs nd H m
  | _, .nil, _, h => by cases h
  | _, .cons h hs, m, hm => by
    rcases List.mem_cons.mp hm with rfl | hm
    · exact h
    · exact hs.mem m hm
/-- a part that is a model -/
def MT.dict? : MT → Option MT
  | .md d pl sp k ps => some (.md d pl sp k ps)
  | _ => none
/-- the models below, as the law finds them: in lists, not in tuples -/
def below1 : MT → List MT
  | .ls _ ps => ps.filterMap MT.dict?
  | m => m.dict?.toList
def belowM (ps : List MT) : List MT := ps.flatMap below1
end M4

namespace M4
open PySem PySem.Spec PyProof.Rows L2 StX
/-! ### the models below a model -/
def isLs : MT → Bool
  | .ls _ _ => true
  | _ => false
def isMd : MT → Bool
  | .md _ _ _ _ _ => true
  | _ => false
theorem MAt.ty {K : PySem.W.Frag} {C : Addr} {Cs : Nat → Addr} {nd : Addr → Option Addr} {H : Hp} {m : MT} (W : ValI K C Cs) (h : MAt Cs nd H m) : ∃ t, TyX K H m.val t ∧ PySem.W.kitOne K t (.type "list") = some (isLs m) ∧ PySem.W.kitOne K t (.type "dict") = some (isMd m) := by
  cases h with
  | md h1 _ _ _ _ _ _ _ => exact ⟨_, .base (.dK h1), kit_ty (by show _ = some false; decide +kernel), kit_ty (by show _ = some true; decide +kernel)⟩
  | at_ h =>
    obtain ⟨t, h1, _, h3⟩ := h.ty W
    exact ⟨t, h1, h3 _ (by simp [seqTs]), h3 _ (by simp [seqTs])⟩
  | ls h _ _ => exact ⟨_, .base (.lst h), kit_ty (by show _ = some true; decide +kernel), kit_ty (by show _ = some false; decide +kernel)⟩
  | tu h _ _ => exact ⟨_, .base (.tup h), kit_ty (by show _ = some false; decide +kernel), kit_ty (by show _ = some false; decide +kernel)⟩
theorem sameRow_len : ∀ {ps : List (List Str)} {rs : List (Str × Str × Str)}, sameRow ps rs = true → ps.length = rs.length
  | [], [], _ => rfl
  | [n, hd] :: ps, r :: rs, h => by
    obtain ⟨_, h2⟩ := Bool.and_eq_true_iff.mp h
    exact congrArg (· + 1) (sameRow_len h2)
  | [], _ :: _, h => by cases h
  | [] :: _, _, h => by cases h
  | [_] :: _, _, h => by cases h
  | [_, _] :: _, [], h => by cases h
  | (_ :: _ :: _ :: _) :: _, _, h => by cases h
theorem fields_row {k : Str} {rs : List (Str × Str × Str)} (h : Fld.lookup k = some rs) : okRow k = true ∧ sameRow (fieldsP k) rs = true := Bool.and_eq_true_iff.mp (List.all_eq_true.mp rows_ok _ (lookMem h))
theorem fields_len {k : Str} (h : (Fld.lookup k).isSome = true) : (fieldsP k).length ≤ 7 := by
  obtain ⟨rs, hr⟩ := Option.isSome_iff_exists.mp h
  rw [sameRow_len (fields_row hr).2]
  exact rows_small hr
abbrev sBl : Stmt := topS 36
theorem scBl : FnScope ["_law_model_here", "_law_found", "_law_part_here", "_law_one"] ["_law_model_here"] (defScope sBl) := ⟨rfl, rfl, rfl, by decide +kernel, rfl, by decide +kernel, by decide +kernel⟩
def spBl (Cs : Nat → Addr) (nd : Addr → Option Addr) : Sp := fun vs H Q _ => ∃ (d pl sp : Addr) (k : Str) (ps : List MT), vs = [.ref d] ∧ MAt Cs nd H (.md d pl sp k ps) ∧ ∀ (H' : Hp) (q : Addr), H q = none → Same H H' → H' q = some (.lst ((belowM ps).map MT.val)) → Q (.ref q) H'
theorem below1_len {Cs : Nat → Addr} {nd : Addr → Option Addr} {H : Hp} {m : MT} (h : MAt Cs nd H m) : (below1 m).length ≤ 100 := by
  cases h with
  | ls _ hl _ => exact Nat.le_trans (List.length_filterMap_le _ _) hl
  | md _ _ _ _ _ _ _ _ => show 1 ≤ 100; decide
  | at_ _ => show 0 ≤ 100; decide
  | tu _ _ _ => show 0 ≤ 100; decide
theorem belowM_len {Cs : Nat → Addr} {nd : Addr → Option Addr} {H : Hp} : ∀ {ps : List MT}, (∀ m ∈ ps, MAt Cs nd H m) → (belowM ps).length ≤ ps.length * 100
  | [], _ => Nat.le_refl _
  | m :: r, h => by
    show (below1 m ++ belowM r).length ≤ _
    have h1 := below1_len (h m (List.mem_cons_self ..))
    have h2 := belowM_len (ps := r) fun x hx => h x (List.mem_cons_of_mem _ hx)
    rw [List.length_append, List.length_cons]
    omega
theorem belowM_take {ps : List MT} {i : Nat} {m : MT} (h : ps[i]? = some m) : belowM (ps.take (i + 1)) = belowM (ps.take i) ++ below1 m := by
  unfold belowM
  rw [List.take_succ, h, List.flatMap_append]
  show _ ++ List.flatMap below1 [m] = _
  rw [List.flatMap_singleton]
theorem dict_of {m n : MT} (h : m.dict? = some n) : n = m ∧ isMd m = true := by
  cases m with
  | md d pl sp k ps => cases h; exact ⟨rfl, rfl⟩
  | _ => cases h
theorem dict_no {m : MT} (h : m.dict? = none) : isMd m = false := by
  cases m with
  | md d pl sp k ps => cases h
  | _ => rfl
def tDict (K : PySem.W.Frag) : TT := tB (tCB (rIsi K) (tCons (tVar 3) (tCons (tC (.ty "dict")) tNil)))
section
variable {P : Program} {w : World} {K : PySem.W.Frag} {mg : Str → Option Value} {base : Heap} {C : Addr} {Cs : Nat → Addr} {nd : Addr → Option Addr}
theorem ok_bl {f : Addr} {fd : FuncData} (F : Fun K "_law_below" "_law_below" sBl f fd) (Z : Blt mg) (zD : mg "dict" = none) (W : ValI K C Cs) : FnOk P w K mg base CX0 1 f fd ["_law_model_here"] (spBl Cs nd) := by
  refine F.ok scBl (fun vs H Q E h => ?_) (fun cdv A outer s H vs Q E hr h => ?_)
  · obtain ⟨d, pl, sp, k, ps, rfl, _⟩ := h
    rfl
  obtain ⟨d, pl, sp, k, ps, rfl, hm, q⟩ := h
  have isiK : ∀ X : Cx, X.K = K → CallR X (.builtin "isinstance") (rIsi K) := fun X e => e ▸ call_isi
  refine ⟨_, (pss_cons (ps_set (i := 1) scBl.nd rfl (.inl rfl) (pe_lst pa_nil))
    (pss_cons (ps_for PassesOwn.never rfl (pi_list (pe_dget (hu_of hr) (pv 0) pe_str (fun _ _ => rfl))) (pg_name (i := 2) scBl.nd rfl (.inl rfl)) (pss_one (ps_expr (pe_bm PySem.F.plainAttrs_list PySem.F.slot_list_extend PySem.F.type_list_extend mt_extend (pv 1) (pa_cons (pe_lc (own := [("_law_one", 3)]) (g := gName 3) (tt := tB (tCB (rIsi K) (tCons (tVar 3) (tCons (tC (.ty "dict")) tNil)))) rfl scBl.nd (pi_list (pe_ifExp (pt_val (pe_callB call_isi (by rfl) Z.isI (by decide +kernel) (pa_cons (pv 2) (pa_cons (pe_bltn (v := .ty "list") (by rfl) Z.ls (by decide +kernel) rfl) pa_nil)))) (pv 2) (pe_lst (pa_cons (pv 2) pa_nil)))) (blkOk_by (own := [("_law_one", 3)]) (N := ["_law_model_here", "_law_found", "_law_part_here", "_law_one"]) (sc := (defScope sBl)) (by decide +kernel)) (fun _ _ _ _ _ => (pg_name (i := 3) scBl.nd rfl (.inl rfl))) (fun _ _ _ _ _ => pts_one (pt_val (pe_callB (isiK _ rfl) (by rfl) Z.isI (by decide +kernel) (pa_cons (pv 3) (pa_cons (pe_bltn (v := .ty "dict") (by rfl) zD (by decide +kernel) rfl) pa_nil))))) (fun _ _ _ _ _ => (pv 3))) pa_nil)))))
    (pss_one (ps_ret (pv 1))))), ?_⟩
  cases hm with
  | @md _ _ _ _ _ xs h1 h2 h3 h4 h5 h6 h7 h8 =>
  have hl7 : ps.length ≤ 7 := by rw [h7]; exact fields_len h6
  have zS : (1000 : Nat) ≤ sizeLine := by decide
  refine ⟨by show 0 ≤ sizeLine; exact Nat.zero_le _, fun L nL => ?_⟩
  have s1 : Same H (upd H L (.lst [])) := same_new nL
  have hL : (upd H L (.lst [])) L = some (.lst []) := upd_same
  generalize upd H L (.lst []) = H1 at s1 hL ⊢
  have gP : DGet H1 d (.str "parts") (some (.ref pl)) := by
    have z := DGet.k (k := Sum.inr "parts") (s1 _ _ h1)
    rw [show valV (mdKv k pl sp (nd d)) (Sum.inr "parts") = some (V.ref pl) from by unfold mdKv; cases nd d <;> rfl] at z
    exact z
  refine ⟨_, rfl, d, .ref pl, rfl, gP, pl, rfl, ⟨_, SqL.of (s1 _ _ h2)⟩, ?_⟩
  refine for_list (K := K) (a := pl) (xs := ps.map MT.val) (fun i σ H' => ∃ x2, σ = [some (.ref d), some (.ref L), x2, none] ∧ (∀ b o, b ≠ L → H1 b = some o → H' b = some o) ∧ H' L = some (.lst ((belowM (ps.take i)).map MT.val)))
    ⟨none, rfl, fun b o _ e => e, hL⟩ (fun i σ H' _ ⟨_, _, k, _⟩ => SqL.of (k _ _ (fun z => by rw [z] at h2; rw [nL] at h2; cases h2) (s1 _ _ h2))) ?_ ?_
  · rintro i x σ H3 hx ⟨x2, rfl, k3, l3⟩
    rw [List.getElem?_map] at hx
    obtain ⟨m, hmi, rfl⟩ := Option.map_eq_some_iff.mp hx
    have s3 : Same H H3 := fun b o e => k3 _ _ (fun z => by rw [z, nL] at e; cases e) (s1 _ _ e)
    have hm0 := h8.mem m (List.mem_of_getElem? hmi)
    have hm3 := hm0.up s3
    refine ⟨_, rfl, .inl ⟨rfl, _, SqL.of l3⟩, ?_⟩
    obtain ⟨t, ht, kl, kd⟩ := hm3.ty W
    refine ⟨_, rfl, m.val, .ty "list", _, _, _, rfl, .ty _, ht, kl, _, rfl, ?_⟩
    have blm := below1_len hm0
    have bll := belowM_len (Cs := Cs) (nd := nd) (H := H) (ps := ps.take i) fun y hy => h8.mem y (List.mem_of_mem_take hy)
    have lti : (ps.take i).length ≤ 7 := by rw [List.length_take]; omega
    have items : ∀ (R : Addr → Hp → Prop), (∀ (a : Addr) (H4 : Hp) (ms : List MT), Same H3 H4 → H4 a = some (.lst (ms.map MT.val)) → (∀ n ∈ ms, MAt Cs nd H4 n) → ms.length ≤ 100 → ms.filterMap MT.dict? = below1 m → R a H4) →
        (isLs m = true → ∃ a, m.val = .ref a ∧ R a H3) ∧ (isLs m = false → ∀ a, H3 a = none → R a (upd H3 a (.lst [m.val]))) := by
      intro R hR
      refine ⟨fun e => ?_, fun e a na => ?_⟩
      · cases hm3 with
        | ls hh hl hs => exact ⟨_, rfl, hR _ H3 _ (Same.refl _) hh (fun n hn => hs.mem n hn) hl rfl⟩
        | _ => cases e
      · refine hR a _ [m] (same_new na) upd_same (fun n hn => by rw [List.mem_singleton.mp hn]; exact hm3.up (same_new na)) (by show 1 ≤ 100; decide) ?_
        rw [fm_one]
        cases m with
        | ls _ _ => cases e
        | _ => rfl
    cases hls : isLs m with
    | true =>
      refine iteT ?_
      refine ⟨_, rfl, ?_⟩
      obtain ⟨a, ea, hR⟩ := (items (fun a H4 => ∃ ms : List MT, Same H3 H4 ∧ H4 a = some (.lst (ms.map MT.val)) ∧ (∀ n ∈ ms, MAt Cs nd H4 n) ∧ ms.length ≤ 100 ∧ ms.filterMap MT.dict? = below1 m) fun a H4 ms e1 e2 e3 e4 e5 => ⟨ms, e1, e2, e3, e4, e5⟩).1 hls
      rw [ea]
      obtain ⟨ms, s4, ha, hms, hl, em⟩ := hR
      refine ⟨a, rfl, ⟨_, SqL.of ha⟩, fun D nD => ?_⟩
      refine lc_list (K := K) (a := a) (xs := ms.map MT.val) (fun j H5 => Same H3 H5 ∧ H5 D = some (.lst (((ms.take j).filterMap MT.dict?).map MT.val))) ⟨same_new nD, upd_same⟩ (fun j H5 _ ⟨s5, _⟩ => SqL.of (s5 _ _ ha)) ?_ ?_
      · rintro j x H5 hx ⟨s5, h5⟩
        rw [List.getElem?_map] at hx
        obtain ⟨n, hn, rfl⟩ := Option.map_eq_some_iff.mp hx
        have hn5 := (hms n (List.mem_of_getElem? hn)).up s5
        obtain ⟨t5, ht5, _, kd5⟩ := hn5.ty W
        refine ⟨rfl, ?_⟩
        refine ⟨_, rfl, n.val, .ty "dict", _, _, _, rfl, .ty _, ht5, kd5, _, rfl, ?_⟩
        have et : (ms.take (j + 1)).filterMap MT.dict? = (ms.take j).filterMap MT.dict? ++ n.dict?.toList := by
          rw [List.take_succ, hn, List.filterMap_append]
          show _ ++ List.filterMap MT.dict? [n] = _
          rw [fm_one]
        cases hd : n.dict? with
        | some n' =>
          obtain ⟨rfl, e⟩ := dict_of hd
          rw [e]
          refine iteT ?_
          refine ⟨_, rfl, _, h5, ?_, fun c o e => ?_, ?_⟩
          · have z1 := List.length_filterMap_le MT.dict? (ms.take j)
            rw [List.length_take] at z1
            rw [List.length_map]
            omega
          · rw [upd_ne (ne_of_none e nD)]
            exact s5 _ _ e
          · rw [upd_same, et, hd, List.map_append]
            rfl
        | none =>
          rw [dict_no hd]
          refine iteF ?_
          refine ⟨s5, ?_⟩
          rw [et, hd]
          show _ = some (HO.lst ((_ ++ []).map MT.val))
          rw [List.append_nil]
          exact h5
      · rintro H5 ⟨s5, h5⟩
        rw [List.length_map, List.take_length, em] at h5
        have LD : L ≠ D := ne_of_none (s4 _ _ l3) nD
        refine ⟨L, D, _, _, rfl, rfl, s5 _ _ (s4 _ _ l3), h5, ?_, _, rfl, fun b o nb e => ?_, ?_⟩
        · rw [List.length_map, List.length_map]
          omega
        · rw [upd_ne nb]
          exact s5 _ _ (s4 _ _ (k3 _ _ nb e))
        · rw [upd_same, belowM_take hmi, List.map_append]
    | false =>
      refine iteF ?_
      refine ⟨_, rfl, by show 1 ≤ sizeLine; decide, fun a na => ?_⟩
      obtain ⟨ms, s4, ha, hms, hl, em⟩ := (items (fun a H4 => ∃ ms : List MT, Same H3 H4 ∧ H4 a = some (.lst (ms.map MT.val)) ∧ (∀ n ∈ ms, MAt Cs nd H4 n) ∧ ms.length ≤ 100 ∧ ms.filterMap MT.dict? = below1 m) fun a H4 ms e1 e2 e3 e4 e5 => ⟨ms, e1, e2, e3, e4, e5⟩).2 hls a na
      generalize upd H3 a (.lst [m.val]) = H4 at s4 ha hms ⊢
      refine ⟨a, rfl, ⟨_, SqL.of ha⟩, fun D nD => ?_⟩
      refine lc_list (K := K) (a := a) (xs := ms.map MT.val) (fun j H5 => Same H4 H5 ∧ H5 D = some (.lst (((ms.take j).filterMap MT.dict?).map MT.val))) ⟨same_new nD, upd_same⟩ (fun j H5 _ ⟨s5, _⟩ => SqL.of (s5 _ _ ha)) ?_ ?_
      · rintro j x H5 hx ⟨s5, h5⟩
        rw [List.getElem?_map] at hx
        obtain ⟨n, hn, rfl⟩ := Option.map_eq_some_iff.mp hx
        have hn5 := (hms n (List.mem_of_getElem? hn)).up s5
        obtain ⟨t5, ht5, _, kd5⟩ := hn5.ty W
        refine ⟨rfl, ?_⟩
        refine ⟨_, rfl, n.val, .ty "dict", _, _, _, rfl, .ty _, ht5, kd5, _, rfl, ?_⟩
        have et : (ms.take (j + 1)).filterMap MT.dict? = (ms.take j).filterMap MT.dict? ++ n.dict?.toList := by
          rw [List.take_succ, hn, List.filterMap_append]
          show _ ++ List.filterMap MT.dict? [n] = _
          rw [fm_one]
        cases hd : n.dict? with
        | some n' =>
          obtain ⟨rfl, e⟩ := dict_of hd
          rw [e]
          refine iteT ?_
          refine ⟨_, rfl, _, h5, ?_, fun c o e => ?_, ?_⟩
          · have z1 := List.length_filterMap_le MT.dict? (ms.take j)
            rw [List.length_take] at z1
            rw [List.length_map]
            omega
          · rw [upd_ne (ne_of_none e nD)]
            exact s5 _ _ e
          · rw [upd_same, et, hd, List.map_append]
            rfl
        | none =>
          rw [dict_no hd]
          refine iteF ?_
          refine ⟨s5, ?_⟩
          rw [et, hd]
          show _ = some (HO.lst ((_ ++ []).map MT.val))
          rw [List.append_nil]
          exact h5
      · rintro H5 ⟨s5, h5⟩
        rw [List.length_map, List.take_length, em] at h5
        have LD : L ≠ D := ne_of_none (s4 _ _ l3) nD
        refine ⟨L, D, _, _, rfl, rfl, s5 _ _ (s4 _ _ l3), h5, ?_, _, rfl, fun b o nb e => ?_, ?_⟩
        · rw [List.length_map, List.length_map]
          omega
        · rw [upd_ne nb]
          exact s5 _ _ (s4 _ _ (k3 _ _ nb e))
        · rw [upd_same, belowM_take hmi, List.map_append]
  · rintro σ H3 ⟨x2, rfl, k3, l3⟩
    rw [List.length_map, List.take_length] at l3
    exact ⟨_, rfl, q H3 L nL (fun b o e => k3 _ _ (fun z => by rw [z, nL] at e; cases e) (s1 _ _ e)) l3⟩
end
end M4

namespace M4
open PySem PySem.Spec PyProof.Rows L2 StX
/-! ### all models of a model, each ahead of those below -/
inductive All2 (R : MT → List MT → Prop) : List MT → List MT → Prop
  | nil : All2 R [] []
  | cons {m : MT} {l ms ls : List MT} : R m l → All2 R ms ls → All2 R (m :: ms) (l ++ ls)
/-- of a height below n -/
def MsN : Nat → MT → List MT → Prop
  | 0, _, _ => False
  | n + 1, m, l => ∃ d pl sp k ps ls, m = .md d pl sp k ps ∧ l = m :: ls ∧ All2 (MsN n) (belowM ps) ls
abbrev sMo : Stmt := topS 37
theorem scMo : FnScope ["_law_model_here", "_law_found", "_law_one"] ["_law_model_here"] (defScope sMo) := ⟨rfl, rfl, rfl, by decide +kernel, rfl, by decide +kernel, by decide +kernel⟩
def spMo (Cs : Nat → Addr) (nd : Addr → Option Addr) (n : Nat) : Sp := fun vs H Q _ => ∃ (m : MT) (l : List MT), vs = [m.val] ∧ MAt Cs nd H m ∧ MsN n m l ∧ l.length ≤ 100000 ∧ ∀ (H' : Hp) (q : Addr), H q = none → Same H H' → H' q = some (.lst (l.map MT.val)) → Q (.ref q) H'
theorem dict_mem {ps : List MT} {Cs : Nat → Addr} {nd : Addr → Option Addr} {H : Hp} (h : ∀ m ∈ ps, MAt Cs nd H m) : ∀ n ∈ belowM ps, MAt Cs nd H n := by
  intro n hn
  obtain ⟨m, hm, hnm⟩ := List.mem_flatMap.mp hn
  have hmA := h m hm
  cases m with
  | md d pl sp k qs =>
    have e : n = .md d pl sp k qs := List.mem_singleton.mp hnm
    rw [e]; exact hmA
  | at_ v => cases hnm
  | ls a qs =>
    cases hmA with
    | ls _ _ hs =>
      obtain ⟨x, hx, e⟩ := List.mem_filterMap.mp hnm
      obtain ⟨rfl, _⟩ := dict_of e
      exact hs.mem _ hx
  | tu a qs => cases hnm
theorem All2.split {R : MT → List MT → Prop} : ∀ {ms ls : List MT}, All2 R ms ls → ∀ {i : Nat} {m : MT}, ms[i]? = some m → ∃ A l B, ls = A ++ l ++ B ∧ All2 R (ms.take i) A ∧ R m l ∧ All2 R (ms.drop (i + 1)) B
  | _, _, .nil, i, m, h => by simp at h
  | _, _, .cons (l := l) h hs, 0, m, e => by
    cases e
    exact ⟨[], l, _, rfl, .nil, h, hs⟩
  | _, _, .cons (l := l) h hs, i + 1, m, e => by
    obtain ⟨A, l2, B, rfl, h1, h2, h3⟩ := hs.split (i := i) (m := m) e
    exact ⟨l ++ A, l2, B, by simp, .cons h h1, h2, h3⟩
section
variable {P : Program} {w : World} {K : PySem.W.Frag} {mg : Str → Option Value} {base : Heap} {C : Addr} {Cs : Nat → Addr} {nd : Addr → Option Addr}
theorem no_mo {f : Addr} {fd : FuncData} {k : Nat} : FnOk P w K mg base CX0 k f fd ["_law_model_here"] (spMo Cs nd 0) :=
  ⟨fun vs H Q E h => by obtain ⟨m, l, _, _, z, _⟩ := h; exact z.elim, fun A outer s H args us vs Q E hr e0 hb r h => by obtain ⟨m, l, _, _, z, _⟩ := h; exact z.elim⟩
theorem ok_mo {n k : Nat} (hk : 1 ≤ k) {f fB : Addr} {fd dB : FuncData} (F : Fun K "_law_models" "_law_models" sMo f fd)
    (BL : FnOk P w K mg base CX0 1 fB dB ["_law_model_here"] (spBl Cs nd)) (bB : Binds K dB ["_law_model_here"] []) (kB : PySem.W.keepIn K (.ref fB) = true) (mB : mg "_law_below" = some (.ref fB))
    (MO : FnOk P w K mg base CX0 k f fd ["_law_model_here"] (spMo Cs nd n)) (bM : Binds K fd ["_law_model_here"] []) (mM : mg "_law_models" = some (.ref f)) : FnOk P w K mg base CX0 (k + 1) f fd ["_law_model_here"] (spMo Cs nd (n + 1)) := by
  refine F.ok scMo (fun vs H Q E h => ?_) (fun cdv A outer s H vs Q E hr h => ?_)
  · obtain ⟨m, l, rfl, _⟩ := h
    rfl
  obtain ⟨m, l, rfl, hm, hms, hl, q⟩ := h
  have hr1 := hr.mono hk
  obtain ⟨d, pl, sp, kd, ps, ls, rfl, rfl, hall⟩ := hms
  refine ⟨_, (pss_cons (ps_set (i := 1) scMo.nd rfl (.inl rfl) (pe_lst (pa_cons (pv 0) pa_nil)))
    (pss_cons (ps_for PassesOwn.never rfl (pi_list (pe_call BL hr1 rfl mB kB bB .nil pass0 (pa_cons (pv 0) pa_nil))) (pg_name (i := 2) scMo.nd rfl (.inl rfl)) (pss_one (ps_expr (pe_bm PySem.F.plainAttrs_list PySem.F.slot_list_extend PySem.F.type_list_extend mt_extend (pv 1) (pa_cons (pe_call MO hr rfl mM F.kp bM .nil pass0 (pa_cons (pv 2) pa_nil)) pa_nil)))))
    (pss_one (ps_ret (pv 1))))), ?_⟩
  have hm0 := hm
  have zL : (100000 : Nat) ≤ sizeLine := by decide
  refine ⟨_, rfl, by show 1 ≤ sizeLine; decide, fun L nL => ?_⟩
  have s1 : Same H (upd H L (.lst [MT.val (.md d pl sp kd ps)])) := same_new nL
  have hL : (upd H L (.lst [MT.val (.md d pl sp kd ps)])) L = some (.lst [MT.val (.md d pl sp kd ps)]) := upd_same
  generalize upd H L (.lst [MT.val (.md d pl sp kd ps)]) = H1 at s1 hL ⊢
  refine ⟨_, rfl, d, pl, sp, kd, ps, rfl, hm.up s1, fun H2 b nb s2 hb => ?_⟩
  have bL : b ≠ L := fun z => by rw [z, hL] at nb; cases nb
  have s12 := s1.trans s2
  refine ⟨b, rfl, ⟨_, SqL.of hb⟩, ?_⟩
  have hbm : ∀ x ∈ belowM ps, MAt Cs nd H x := by
    cases hm0 with
    | md _ _ _ _ _ _ _ h8 => exact dict_mem fun x hx => h8.mem x hx
  refine for_list (K := K) (a := b) (xs := (belowM ps).map MT.val) (fun i σ H' => ∃ x2 A, σ = [some (.ref d), some (.ref L), x2] ∧ (∀ c o, c ≠ L → H2 c = some o → H' c = some o) ∧ (∃ B, ls = A ++ B ∧ All2 (MsN n) ((belowM ps).drop i) B) ∧ H' L = some (.lst ((.md d pl sp kd ps :: A).map MT.val)))
    ⟨none, [], rfl, fun c o _ e => e, ⟨ls, rfl, hall⟩, s2 _ _ hL⟩ (fun i σ H' _ ⟨_, _, _, k, _⟩ => SqL.of (k _ _ bL hb)) ?_ ?_
  · rintro i x σ H3 hx ⟨x2, A, rfl, k3, ⟨B, eB, hB⟩, l3⟩
    rw [List.getElem?_map] at hx
    obtain ⟨m, hmi, rfl⟩ := Option.map_eq_some_iff.mp hx
    have s3 : Same H H3 := fun c o e => k3 _ _ (fun z => by rw [z, nL] at e; cases e) (s12 _ _ e)
    have hd0 : ((belowM ps).drop i)[0]? = some m := by rw [List.getElem?_drop]; exact hmi
    obtain ⟨A0, lm, B2, eB2, hA0, hmm, hB2⟩ := hB.split hd0
    have eA0 : A0 = [] := by cases hA0; rfl
    subst eA0
    rw [List.nil_append] at eB2
    have hlm : (A ++ (lm ++ B2)).length = ls.length := by rw [eB, eB2]
    simp only [List.length_append] at hlm
    have hl2 : ls.length + 1 ≤ 100000 := hl
    refine ⟨_, rfl, .inl ⟨rfl, _, SqL.of l3⟩, _, rfl, m, lm, rfl, (hbm m (List.mem_of_getElem? hmi)).up s3, hmm, by omega, fun H4 D nD s4 hD => ?_⟩
    have LD : L ≠ D := ne_of_none l3 nD
    refine ⟨L, D, _, _, rfl, rfl, s4 _ _ l3, hD, ?_, _, A ++ lm, rfl, fun c o nc e => ?_, ⟨B2, ?_, ?_⟩, ?_⟩
    · simp only [List.length_map, List.length_cons]
      omega
    · rw [upd_ne nc]
      exact s4 _ _ (k3 _ _ nc e)
    · rw [eB, eB2, List.append_assoc]
    · have e : (belowM ps).drop (i + 1) = ((belowM ps).drop i).drop (0 + 1) := by rw [List.drop_drop]
      rw [e]; exact hB2
    · rw [upd_same]
      simp
  · rintro σ H3 ⟨x2, A, rfl, k3, ⟨B, eB, hB⟩, l3⟩
    rw [List.length_map] at hB
    rw [List.drop_length] at hB
    have eB0 : B = [] := by cases hB; rfl
    rw [eB0, List.append_nil] at eB
    rw [← eB] at l3
    exact ⟨_, rfl, q H3 L nL (fun c o e => k3 _ _ (fun z => by rw [z, nL] at e; cases e) (s12 _ _ e)) l3⟩
end
end M4

namespace M4
open PySem PySem.Spec PyProof.Rows L2 StX TL
/-! ### what a word of the law's table asks for, and at what price -/
def inner (h : Str) : Str := cutS h none (some (-1))
def endC (h : Str) : Option Nat := atI h.cps.toList (-1)
def gwB (h : Str) : Bool := !(Builtin.Str.occurrences ("GW" : Str) h 0 ("GW" : Str).length 1).isEmpty
def leafB (h : Str) : Bool := decide (h = "N") || decide (h = "B") || gwB h || decide (h = "V")
/-- of a word for a model: its price and its height where it is small -/
def HMT : List (Str × Nat × Nat) := [("S", 1, 2), ("E", 2, 3), ("T", 1, 2), ("O", 1, 1), ("U", 1, 1), ("X", 1, 1), ("P", 1, 1), ("C", 1, 1), ("arguments", 1, 2), ("keyword", 3, 5), ("comprehension", 5, 5), ("withitem", 3, 5), ("match_case", 3, 5),
  ("ExceptHandler", 2, 5), ("alias", 1, 2), ("arg", 1, 2), ("JoinedStr", 1, 2), ("Module", 1, 2), ("Match", 6, 8), ("Dict", 1, 2), ("Call", 6, 8), ("Try", 6, 8), ("FunctionDef", 6, 8)]
def pm (h : Str) : Nat := ((HMT.lookup h).getD (0, 0)).1
def fm (h : Str) : Nat := ((HMT.lookup h).getD (0, 0)).2
def okW : Nat → Str → Bool
  | 0, _ => false
  | n + 1, h => match endC h with
    | none => false
    | some c => decide (h.length ≤ 100) && (if decide (c ∈ ("*+" : Str).cps.toList) || decide (V.str ⟨#[c]⟩ = V.str "?") then okW n (inner h) else leafB h || (HMT.lookup h).isSome)
/-- the price of a part; b: of a small one -/
def pp (b : Bool) : Nat → Str → Nat
  | 0, _ => 0
  | n + 1, h => match endC h with
    | none => 0
    | some c => if decide (c ∈ ("*+" : Str).cps.toList) then ((if decide (V.str ⟨#[c]⟩ = V.str "+") then 1 else 0) + (if b then 0 else 2)) * pp b n (inner h)
        else if decide (V.str ⟨#[c]⟩ = V.str "?") then (if b then 0 else pp b n (inner h))
        else if leafB h then 0 else pm h
/-- the draws of a part of its own -/
def od : Nat → Str → Nat
  | 0, _ => 0
  | n + 1, h => match endC h with
    | none => 0
    | some c => if decide (c ∈ ("*+" : Str).cps.toList) then 1 + 3 * od n (inner h) else if decide (V.str ⟨#[c]⟩ = V.str "?") then 1 + od n (inner h) else 1
/-- how many signs stand behind the word -/
def mks : Nat → Str → Nat
  | 0, _ => 0
  | n + 1, h => match endC h with
    | none => 0
    | some c => if decide (c ∈ ("*+" : Str).cps.toList) || decide (V.str ⟨#[c]⟩ = V.str "?") then 1 + mks n (inner h) else 0
/-- the height of a small part -/
def nf : Nat → Str → Nat
  | 0, _ => 0
  | n + 1, h => match endC h with
    | none => 0
    | some c => if decide (c ∈ ("*+" : Str).cps.toList) then (if decide (V.str ⟨#[c]⟩ = V.str "+") then 1 + nf n (inner h) else 1) else if decide (V.str ⟨#[c]⟩ = V.str "?") then 1 else if leafB h then 1 else 1 + fm h
def whatOf (p : List Str) : Str := p.getD 1 ""
def fldOk (p : List Str) : Bool := match p with
  | [_, w] => okW 3 w && (decide (mks 3 w ≤ 2) && (decide (nf 3 w ≤ 10) && decide (od 3 w ≤ 7)))
  | _ => false
def sumW (f : Str → Nat) (ps : List (List Str)) : Nat := (ps.map fun p => f (whatOf p)).sum
def kindOk (k : Str) : Bool := (Fld.lookup k).isSome && ((fieldsP k).all fldOk && decide (1 + sumW (pp false 3) (fieldsP k) ≤ 21))
def poorOk (h k : Str) : Bool := decide (1 + sumW (pp true 3) (fieldsP k) ≤ pm h) && (fieldsP k).all fun p => decide (nf 3 (whatOf p) + 1 ≤ fm h)
def smallT : List (Str × List Str) := [("S", ["Pass", "Return"]), ("E", ["Name", "Constant"]), ("T", ["MatchAs"])]
def poorG (h : Str) : List Str := (smallT.lookup h).getD (groupP h)
def groupOk (h : Str) : Bool := decide ((grpTx h).length ≤ 1000) && (decide (0 < (groupP h).length) && (decide ((groupP h).length ≤ 100) && ((groupP h).all kindOk && (decide (0 < (poorG h).length) && (decide ((poorG h).length ≤ 100) && ((poorG h).all kindOk && (poorG h).all (poorOk h)))))))
def hmOk (e : Str × Nat × Nat) : Bool := groupOk e.1 && (decide (1 ≤ e.2.1) && (decide (e.2.2 ≤ 8) && (decide (1 ≤ e.2.2) && decide (e.2.1 ≤ 6))))
theorem hm_ok : HMT.all hmOk = true := by decide +kernel
theorem pp_le : ∀ (n : Nat) (h : Str), pp true n h ≤ pp false n h
  | 0, _ => Nat.le_refl _
  | n + 1, h => by
    unfold pp
    cases endC h with
    | none => exact Nat.le_refl _
    | some c =>
      have ih := pp_le n (inner h)
      dsimp only
      simp only [if_true, Bool.false_eq_true, if_false]
      split
      · exact Nat.mul_le_mul (by omega) ih
      · split
        · exact Nat.zero_le _
        · exact Nat.le_refl _
end M4

namespace M4
open PySem PySem.Spec PyProof.Rows L2 StX TL
/-! ### the dicts of a model, its height -/
mutual
def MT.mds : MT → List Addr
  | .md d _ _ _ ps => d :: mdsL ps
  | .at_ _ => []
  | .ls _ ps => mdsL ps
  | .tu _ ps => mdsL ps
def mdsL : List MT → List Addr
  | [] => []
  | m :: r => m.mds ++ mdsL r
end
mutual
def MT.hgt : MT → Nat
  | .md _ _ _ _ ps => hgtL ps + 1
  | .at_ _ => 0
  | .ls _ ps => hgtL ps + 1
  | .tu _ ps => hgtL ps + 1
def hgtL : List MT → Nat
  | [] => 0
  | m :: r => max m.hgt (hgtL r)
end
mutual
/-- the lists of a model: of parts, of spots, of items -/
def MT.lsa : MT → List Addr
  | .md _ pl sp _ ps => pl :: sp :: lsaL ps
  | .at_ _ => []
  | .ls a ps => a :: lsaL ps
  | .tu _ ps => lsaL ps
def lsaL : List MT → List Addr
  | [] => []
  | m :: r => m.lsa ++ lsaL r
end
theorem lsa_md {d pl sp : Addr} {k : Str} {ps : List MT} : (MT.md d pl sp k ps).lsa = pl :: sp :: lsaL ps := by rw [MT.lsa]
theorem lsa_at {v : V} : (MT.at_ v).lsa = [] := by rw [MT.lsa]
theorem lsa_ls {a : Addr} {ps : List MT} : (MT.ls a ps).lsa = a :: lsaL ps := by rw [MT.lsa]
theorem lsa_tu {a : Addr} {ps : List MT} : (MT.tu a ps).lsa = lsaL ps := by rw [MT.lsa]
theorem lsaL_nil : lsaL [] = [] := by rw [lsaL]
theorem lsaL_cons {m : MT} {r : List MT} : lsaL (m :: r) = m.lsa ++ lsaL r := by rw [lsaL]
theorem lsaL_one {m : MT} : lsaL [m] = m.lsa := by rw [lsaL_cons, lsaL_nil, List.append_nil]
theorem lsaL_app : ∀ {xs ys : List MT}, lsaL (xs ++ ys) = lsaL xs ++ lsaL ys
  | [], _ => by rw [lsaL_nil]; rfl
  | x :: r, ys => by rw [List.cons_append, lsaL_cons, lsaL_cons, lsaL_app, List.append_assoc]
mutual
/-- how long its lists are -/
def MT.wid : MT → Nat
  | .md _ _ _ _ ps => widL ps
  | .at_ _ => 0
  | .ls _ ps => max ps.length (widL ps)
  | .tu _ ps => widL ps
def widL : List MT → Nat
  | [] => 0
  | m :: r => max m.wid (widL r)
end
theorem wid_md {d pl sp : Addr} {k : Str} {ps : List MT} : (MT.md d pl sp k ps).wid = widL ps := by rw [MT.wid]
theorem wid_at {v : V} : (MT.at_ v).wid = 0 := by rw [MT.wid]
theorem wid_ls {a : Addr} {ps : List MT} : (MT.ls a ps).wid = max ps.length (widL ps) := by rw [MT.wid]
theorem wid_tu {a : Addr} {ps : List MT} : (MT.tu a ps).wid = widL ps := by rw [MT.wid]
theorem widL_nil : widL [] = 0 := by rw [widL]
theorem widL_cons {m : MT} {r : List MT} : widL (m :: r) = max m.wid (widL r) := by rw [widL]
theorem widL_app : ∀ {xs ys : List MT}, widL (xs ++ ys) = max (widL xs) (widL ys)
  | [], _ => by rw [widL_nil]; simp
  | x :: r, ys => by rw [List.cons_append, widL_cons, widL_cons, widL_app, Nat.max_assoc]
theorem mds_md {d pl sp : Addr} {k : Str} {ps : List MT} : (MT.md d pl sp k ps).mds = d :: mdsL ps := by rw [MT.mds]
theorem mds_at {v : V} : (MT.at_ v).mds = [] := by rw [MT.mds]
theorem mds_ls {a : Addr} {ps : List MT} : (MT.ls a ps).mds = mdsL ps := by rw [MT.mds]
theorem mds_tu {a : Addr} {ps : List MT} : (MT.tu a ps).mds = mdsL ps := by rw [MT.mds]
theorem mdsL_nil : mdsL [] = [] := by rw [mdsL]
theorem mdsL_cons {m : MT} {r : List MT} : mdsL (m :: r) = m.mds ++ mdsL r := by rw [mdsL]
theorem hgt_md {d pl sp : Addr} {k : Str} {ps : List MT} : (MT.md d pl sp k ps).hgt = hgtL ps + 1 := by rw [MT.hgt]
theorem hgt_at {v : V} : (MT.at_ v).hgt = 0 := by rw [MT.hgt]
theorem hgt_ls {a : Addr} {ps : List MT} : (MT.ls a ps).hgt = hgtL ps + 1 := by rw [MT.hgt]
theorem hgt_tu {a : Addr} {ps : List MT} : (MT.tu a ps).hgt = hgtL ps + 1 := by rw [MT.hgt]
theorem hgtL_nil : hgtL [] = 0 := by rw [hgtL]
theorem hgtL_cons {m : MT} {r : List MT} : hgtL (m :: r) = max m.hgt (hgtL r) := by rw [hgtL]
theorem mdsL_app : ∀ {xs ys : List MT}, mdsL (xs ++ ys) = mdsL xs ++ mdsL ys
  | [], _ => by rw [mdsL_nil]; rfl
  | x :: r, ys => by rw [List.cons_append, mdsL_cons, mdsL_cons, mdsL_app, List.append_assoc]
theorem hgtL_app : ∀ {xs ys : List MT}, hgtL (xs ++ ys) = max (hgtL xs) (hgtL ys)
  | [], _ => by rw [hgtL_nil]; simp
  | x :: r, ys => by rw [List.cons_append, hgtL_cons, hgtL_cons, hgtL_app, Nat.max_assoc]
theorem hgtL_mem : ∀ {xs : List MT} {m : MT}, m ∈ xs → m.hgt ≤ hgtL xs
  | x :: r, m, h => by
    rw [hgtL_cons]
    rcases List.mem_cons.mp h with rfl | h
    · exact Nat.le_max_left _ _
    · exact Nat.le_trans (hgtL_mem h) (Nat.le_max_right _ _)
theorem hgtL_le {n : Nat} : ∀ {xs : List MT}, (∀ m ∈ xs, m.hgt ≤ n) → hgtL xs ≤ n
  | [], _ => by rw [hgtL_nil]; exact Nat.zero_le _
  | x :: r, h => by rw [hgtL_cons]; exact Nat.max_le.mpr ⟨h x (List.mem_cons_self ..), hgtL_le fun m hm => h m (List.mem_cons_of_mem _ hm)⟩
def MT.adr : MT → Addr
  | .md d _ _ _ _ => d
  | _ => 0
mutual
theorem MAt.has {Cs : Nat → Addr} {nd : Addr → Option Addr} {H : Hp} : ∀ {m : MT}, MAt Cs nd H m → ∀ d ∈ m.mds, ∃ kvs, H d = some (.dK kvs)
  | _, .md h1 _ _ _ _ _ _ h8, d, hd => by
    rw [mds_md] at hd
    rcases List.mem_cons.mp hd with rfl | hd
    · exact ⟨_, h1⟩
    · exact h8.has d hd
  | _, .at_ _, d, hd => by rw [mds_at] at hd; cases hd
  | _, .ls _ _ hs, d, hd => by rw [mds_ls] at hd; exact hs.has d hd
  | _, .tu _ _ hs, d, hd => by rw [mds_tu] at hd; exact hs.has d hd
theorem MAtL.has {Cs : Nat → Addr} {nd : Addr → Option Addr} {H : Hp} : ∀ {ms : List MT}, MAtL Cs nd H ms → ∀ d ∈ mdsL ms, ∃ kvs, H d = some (.dK kvs)
  | _, .nil, d, hd => by rw [mdsL_nil] at hd; cases hd
  | _, .cons h hs, d, hd => by
    rw [mdsL_cons] at hd
    rcases List.mem_append.mp hd with hd | hd
    · exact h.has d hd
    · exact hs.has d hd
end
mutual
theorem MAt.hasL {Cs : Nat → Addr} {nd : Addr → Option Addr} {H : Hp} : ∀ {m : MT}, MAt Cs nd H m → ∀ d ∈ m.lsa, ∃ xs, H d = some (.lst xs)
  | _, .md _ h2 h3 _ _ _ _ h8, d, hd => by
    rw [lsa_md] at hd
    rcases List.mem_cons.mp hd with rfl | hd
    · exact ⟨_, h2⟩
    · rcases List.mem_cons.mp hd with rfl | hd
      · exact ⟨_, h3⟩
      · exact h8.hasL d hd
  | _, .at_ _, d, hd => by rw [lsa_at] at hd; cases hd
  | _, .ls h _ hs, d, hd => by
    rw [lsa_ls] at hd
    rcases List.mem_cons.mp hd with rfl | hd
    · exact ⟨_, h⟩
    · exact hs.hasL d hd
  | _, .tu _ _ hs, d, hd => by rw [lsa_tu] at hd; exact hs.hasL d hd
theorem MAtL.hasL {Cs : Nat → Addr} {nd : Addr → Option Addr} {H : Hp} : ∀ {ms : List MT}, MAtL Cs nd H ms → ∀ d ∈ lsaL ms, ∃ xs, H d = some (.lst xs)
  | _, .nil, d, hd => by rw [lsaL_nil] at hd; cases hd
  | _, .cons h hs, d, hd => by
    rw [lsaL_cons] at hd
    rcases List.mem_append.mp hd with hd | hd
    · exact h.hasL d hd
    · exact hs.hasL d hd
end
theorem MAtL.app {Cs : Nat → Addr} {nd : Addr → Option Addr} {H : Hp} : ∀ {xs ys : List MT}, MAtL Cs nd H xs → MAtL Cs nd H ys → MAtL Cs nd H (xs ++ ys)
  | _, _, .nil, h => h
  | _, _, .cons h hs, g => .cons h (hs.app g)
/-! ### the models below -/
theorem dict_list : ∀ {ms : List MT}, List.Sublist (mdsL (ms.filterMap MT.dict?)) (mdsL ms)
  | [] => List.Sublist.refl _
  | m :: r => by
    rw [List.filterMap_cons, mdsL_cons]
    cases e : m.dict? with
    | none => exact (dict_list (ms := r)).trans (List.sublist_append_right _ _)
    | some n =>
      obtain ⟨rfl, _⟩ := dict_of e
      dsimp only
      rw [mdsL_cons]
      exact List.Sublist.append (List.Sublist.refl _) dict_list
theorem below1_sub {m : MT} : List.Sublist (mdsL (below1 m)) m.mds := by
  cases m with
  | md d pl sp k ps =>
    show List.Sublist (mdsL [.md d pl sp k ps]) _
    rw [mdsL_cons, mdsL_nil, List.append_nil]
    exact List.Sublist.refl _
  | at_ v => show List.Sublist (mdsL []) _; rw [mdsL_nil]; exact List.nil_sublist _
  | ls a ps => show List.Sublist (mdsL (ps.filterMap MT.dict?)) _; rw [mds_ls]; exact dict_list
  | tu a ps => show List.Sublist (mdsL []) _; rw [mdsL_nil]; exact List.nil_sublist _
theorem belowM_sub : ∀ {ps : List MT}, List.Sublist (mdsL (belowM ps)) (mdsL ps)
  | [] => List.Sublist.refl _
  | m :: r => by
    show List.Sublist (mdsL (below1 m ++ belowM r)) _
    rw [mdsL_app, mdsL_cons]
    exact List.Sublist.append below1_sub belowM_sub
theorem below1_hgt {m n : MT} (h : n ∈ below1 m) : isMd n = true ∧ n.hgt ≤ m.hgt := by
  cases m with
  | md d pl sp k ps =>
    rw [List.mem_singleton.mp h]
    exact ⟨rfl, Nat.le_refl _⟩
  | at_ v => cases h
  | ls a ps =>
    obtain ⟨x, hx, e⟩ := List.mem_filterMap.mp h
    obtain ⟨rfl, e2⟩ := dict_of e
    rw [hgt_ls]
    have := hgtL_mem hx
    exact ⟨e2, by omega⟩
  | tu a ps => cases h
theorem belowM_hgt {ps : List MT} {n : MT} (h : n ∈ belowM ps) : isMd n = true ∧ n.hgt ≤ hgtL ps := by
  obtain ⟨m, hm, hn⟩ := List.mem_flatMap.mp h
  obtain ⟨h1, h2⟩ := below1_hgt hn
  exact ⟨h1, Nat.le_trans h2 (hgtL_mem hm)⟩
/-- all models of a model -/
theorem msN_ex : ∀ (n : Nat) (m : MT), isMd m = true → m.hgt ≤ n → ∃ l, MsN n m l ∧ l.length ≤ m.mds.length
  | 0, m, hm, h => by
    cases m with
    | md d pl sp k ps => rw [hgt_md] at h; omega
    | _ => cases hm
  | n + 1, m, hm, h => by
    have all : ∀ ms : List MT, (∀ x ∈ ms, isMd x = true ∧ x.hgt ≤ n) → ∃ ls, All2 (MsN n) ms ls ∧ ls.length ≤ (mdsL ms).length := by
      intro ms
      induction ms with
      | nil => intro _; exact ⟨[], .nil, Nat.zero_le _⟩
      | cons x r ih =>
        intro hx
        obtain ⟨l1, a1, b1⟩ := msN_ex n x (hx x (List.mem_cons_self ..)).1 (hx x (List.mem_cons_self ..)).2
        obtain ⟨l2, a2, b2⟩ := ih fun y hy => hx y (List.mem_cons_of_mem _ hy)
        refine ⟨l1 ++ l2, .cons a1 a2, ?_⟩
        rw [mdsL_cons, List.length_append, List.length_append]
        omega
    cases m with
    | md d pl sp k ps =>
      rw [hgt_md] at h
      obtain ⟨ls, a, b⟩ := all (belowM ps) fun x hx => by
        obtain ⟨h1, h2⟩ := belowM_hgt hx
        exact ⟨h1, by omega⟩
      refine ⟨.md d pl sp k ps :: ls, ⟨d, pl, sp, k, ps, ls, rfl, rfl, a⟩, ?_⟩
      have := (belowM_sub (ps := ps)).length_le
      rw [mds_md, List.length_cons, List.length_cons]
      omega
    | _ => cases hm
theorem All2.mds {R : MT → List MT → Prop} (h : ∀ m l, R m l → ∀ x ∈ l, x.adr ∈ m.mds) : ∀ {ms ls : List MT}, All2 R ms ls → ∀ x ∈ ls, x.adr ∈ mdsL ms
  | _, _, .nil, x, hx => by cases hx
  | _, _, .cons h1 h2, x, hx => by
    rw [mdsL_cons]
    rcases List.mem_append.mp hx with hx | hx
    · exact List.mem_append_left _ (h _ _ h1 x hx)
    · exact List.mem_append_right _ (h2.mds h x hx)
theorem msN_mds : ∀ (n : Nat) (m : MT) (l : List MT), MsN n m l → ∀ x ∈ l, x.adr ∈ m.mds
  | 0, _, _, h, _, _ => h.elim
  | n + 1, m, l, h, x, hx => by
    obtain ⟨d, pl, sp, k, ps, ls, rfl, rfl, a⟩ := h
    rw [mds_md]
    rcases List.mem_cons.mp hx with rfl | hx
    · exact List.mem_cons_self ..
    · exact List.mem_cons_of_mem _ (belowM_sub.subset (a.mds (msN_mds n) x hx))
end M4

namespace M4
open PySem PySem.Spec PyProof.Rows L2 StX TL
/-! ### while models are drawn -/
/-- the part of H outside of B -/
noncomputable def res (B : Addr → Prop) (H : Hp) : Hp := fun b => open Classical in if B b then none else H b
theorem res_out {B : Addr → Prop} {H : Hp} : Same (res B H) H := fun b o h => by
  unfold res at h
  split at h
  · cases h
  · exact h
theorem res_at {B : Addr → Prop} {H : Hp} {b : Addr} {o : HO} (h : res B H b = some o) : ¬ B b ∧ H b = some o := by
  unfold res at h
  split at h
  · cases h
  · exact ⟨‹_›, h⟩
theorem res_in {B : Addr → Prop} {H : Hp} {b : Addr} {o : HO} (n : ¬ B b) (h : H b = some o) : res B H b = some o := by
  unfold res
  rw [if_neg n, h]
theorem res_up {B B' : Addr → Prop} {H H' : Hp} (h : ∀ b o, ¬ B b → H b = some o → ¬ B' b ∧ H' b = some o) : Same (res B H) (res B' H') := fun b o e => by
  obtain ⟨n, e⟩ := res_at e
  obtain ⟨n', e'⟩ := h b o n e
  exact res_in n' e'
/-- stood in H, and is no object of a class -/
def was (H : Hp) : Addr → Prop := fun b => ∃ o, H b = some o ∧ isI o = false
theorem was_of {H : Hp} {b : Addr} {o : HO} (h : H b = some o) (n : isI o = false := by rfl) : was H b := ⟨o, h, n⟩
theorem not_was {H : Hp} {b : Addr} (h : H b = none) : ¬ was H b := fun ⟨o, z, _⟩ => by rw [h] at z; cases z
structure Ds (H : Hp) (a c lf : Addr) (S : Stm) (L : Int) : Prop where
  st : StmAt H a c S
  lfa : H lf = some (.lst [.int L])
  na : lf ≠ a
  nc : lf ≠ c
def KpX (ex : List Addr) (H H' : Hp) : Prop := ∀ b o, b ∉ ex → H b = some o → H' b = some o
theorem KpX.trans {ex : List Addr} {H H1 H2 : Hp} (x : KpX ex H H1) (y : KpX ex H1 H2) : KpX ex H H2 := fun b o n h => y b o n (x b o n h)
theorem KpX.mono {ex ex' : List Addr} {H H1 : Hp} (x : KpX ex H H1) (h : ∀ b ∈ ex, b ∈ ex') : KpX ex' H H1 := fun b o n e => x b o (fun z => n (h b z)) e
theorem KpX.same {ex : List Addr} {H H' : Hp} (s : Same H H') : KpX ex H H' := fun b o _ e => s b o e
theorem KpX.kept {a c lf : Addr} {H H' : Hp} (k : Kept a c H H') : KpX [a, c, lf] H H' := fun b o n e => by
  refine k b o (fun z => n ?_) (fun z => n ?_) e
  · rw [z]; simp
  · rw [z]; simp
theorem Ds.keep {H H' : Hp} {a c lf : Addr} {S : Stm} {L : Int} (h : Ds H a c lf S L) (s : Same H H') : Ds H' a c lf S L := ⟨h.st.keep s, s _ _ h.lfa, h.na, h.nc⟩
theorem Ds.draw {H H' : Hp} {a c lf : Addr} {S S' : Stm} {L : Int} (h : Ds H a c lf S L) (h' : StmAt H' a c S') (k : Kept a c H H') : Ds H' a c lf S' L := ⟨h', k _ _ h.na h.nc h.lfa, h.na, h.nc⟩
theorem Ds.in_ {H : Hp} {a c lf : Addr} {S : Stm} {L : Int} (h : Ds H a c lf S L) : ∀ b ∈ [a, c, lf], was H b := by
  intro b hb
  simp only [List.mem_cons, List.not_mem_nil, or_false] at hb
  rcases hb with rfl | rfl | rfl
  · exact was_of h.st.lst
  · exact was_of h.st.cel
  · exact was_of h.lfa
theorem Ds.ne {H : Hp} {a c lf D : Addr} {S : Stm} {L : Int} (h : Ds H a c lf S L) (n : H D = none) : D ∉ [a, c, lf] := fun z => not_was n (h.in_ D z)
/-- a part fits its word: a list for * and +, None or what is within for ?, else an atom or a model -/
def Fit : Nat → Str → MT → Prop
  | 0, _, _ => False
  | n + 1, h, m => match endC h with
    | none => False
    | some c => if decide (c ∈ ("*+" : Str).cps.toList) then ∃ D ms, m = .ls D ms ∧ ∀ x ∈ ms, Fit n (inner h) x
        else if decide (V.str ⟨#[c]⟩ = V.str "?") then m = .at_ .non ∨ Fit n (inner h) m
        else (∃ v, m = .at_ v) ∨ isMd m = true
theorem fit_at {n : Nat} {h : Str} {m : MT} {c : Nat} (e : endC h = some c) : Fit (n + 1) h m = if decide (c ∈ ("*+" : Str).cps.toList) then ∃ D ms, m = .ls D ms ∧ ∀ x ∈ ms, Fit n (inner h) x
        else if decide (V.str ⟨#[c]⟩ = V.str "?") then m = .at_ .non ∨ Fit n (inner h) m
        else (∃ v, m = .at_ v) ∨ isMd m = true := by
  rw [Fit, e]
def FitsL (k : Str) (ps : List MT) : Prop := ∀ (i : Nat) p fp, ps[i]? = some p → (fieldsP k)[i]? = some fp → ∃ nm wh, fp = [nm, wh] ∧ Fit 3 wh p
/-- a drawn model: its parts fit the table, and so below -/
inductive CfM : MT → Prop
  | at_ {v : V} : CfM (.at_ v)
  | ls {a : Addr} {ms : List MT} : ms.length ≤ 50 → (∀ m ∈ ms, CfM m) → CfM (.ls a ms)
  | md {d pl sp : Addr} {k : Str} {ps : List MT} : (∀ m ∈ ps, CfM m) → FitsL k ps → CfM (.md d pl sp k ps)
mutual
theorem CfM.wid_ : ∀ {m : MT}, CfM m → m.wid ≤ 50
  | .at_ _, _ => by rw [wid_at]; exact Nat.zero_le _
  | .ls _ ms, h => by
    rw [wid_ls]
    cases h with
    | ls h1 h2 => exact Nat.max_le.mpr ⟨h1, CfML.wid_ h2⟩
  | .md _ _ _ _ ps, h => by
    rw [wid_md]
    cases h with
    | md h1 h2 => exact CfML.wid_ h1
  | .tu _ _, h => by cases h
theorem CfML.wid_ : ∀ {ms : List MT}, (∀ m ∈ ms, CfM m) → widL ms ≤ 50
  | [], _ => by rw [widL_nil]; exact Nat.zero_le _
  | m :: r, h => by
    rw [widL_cons]
    exact Nat.max_le.mpr ⟨CfM.wid_ (h m (List.mem_cons_self ..)), CfML.wid_ fun x hx => h x (List.mem_cons_of_mem _ hx)⟩
end
structure DrL (Cs : Nat → Addr) (n : Nat) (ex : List Addr) (a c lf : Addr) (H : Hp) (S : Stm) (L : Int) (H' : Hp) (S' : Stm) (L' : Int) (ms : List MT) (p o : Nat) : Prop where
  ds : Ds H' a c lf S' L'
  kp : KpX ex H H'
  at_ : MAtL Cs (fun _ => none) (res (was H) H') ms
  nd : (mdsL ms).Nodup
  nl : (lsaL ms).Nodup
  xl : ∀ b ∈ lsaL ms, b ∉ ex
  ht : hgtL ms ≤ n
  le : L' ≤ L
  ct : (mdsL ms).length + 20 * L'.toNat ≤ 20 * L.toNat + p
  dr : S'.cnt + 1200 * (L'.toNat : Int) ≤ S.cnt + 1200 * (L.toNat : Int) + 60 * (p : Int) + (o : Int)
  cf : ∀ m ∈ ms, CfM m
section
variable {Cs : Nat → Addr} {n : Nat} {ex : List Addr} {a c lf : Addr} {H H0 H1 H2 : Hp} {S S0 S1 S2 : Stm} {L L1 L2 : Int} {ms : List MT} {m : MT} {p o p2 o2 o0 : Nat}
theorem DrL.start (h : Ds H a c lf S L) : DrL Cs n ex a c lf H S L H S L [] 0 0 :=
  ⟨h, fun _ _ _ e => e, .nil, by rw [mdsL_nil]; exact List.nodup_nil, by rw [lsaL_nil]; exact List.nodup_nil, fun b hb => (by rw [lsaL_nil] at hb; cases hb), by rw [hgtL_nil]; exact Nat.zero_le _, Int.le_refl _, by rw [mdsL_nil]; simp, by omega, fun m hm => (by cases hm)⟩
theorem was_up {b : Addr} (k : KpX ex H H1) (hx : ∀ b ∈ ex, was H1 b) (h : was H b) : was H1 b := by
  by_cases z : b ∈ ex
  · exact hx b z
  · obtain ⟨o, e, n⟩ := h
    exact ⟨o, k b o z e, n⟩
/-- a constant is no list -/
theorem was_not {b : Addr} {o : HO} (k : KpX ex H H1) (hx : ∀ b ∈ ex, was H1 b) (i : isI o = true) (e : H1 b = some o) : ¬ was H b := fun z => by
  obtain ⟨o', e', n⟩ := was_up k hx z
  rw [e] at e'
  rw [← Option.some.inj e', i] at n
  cases n
theorem cst_in {v : V} (k : KpX ex H H1) (hx : ∀ b ∈ ex, was H1 b) (h : Cst Cs H1 v) : Cst Cs (res (was H) H1) v := h.map fun b o i e => res_in (was_not k hx i e) e
/-- one more is drawn, and put into the list at D -/
theorem DrL.step {D : Addr} {u : HO} (A : DrL Cs n [a, c, lf, D] a c lf H S L H1 S1 L1 ms p o) (hx : ∀ b ∈ [a, c, lf, D], was H b) (hD : was H1 D) (nD : D ∉ [a, c, lf]) (B : DrL Cs n [a, c, lf] a c lf H1 S1 L1 H2 S2 L2 [m] p2 o2) :
    DrL Cs n [a, c, lf, D] a c lf H S L (upd H2 D u) S2 L2 (ms ++ [m]) (p + p2) (o + o2) := by
  have hx1 : ∀ b ∈ [a, c, lf, D], was H1 b := fun b hb => by
    simp only [List.mem_cons, List.not_mem_nil, or_false] at hb
    rcases hb with rfl | rfl | rfl | rfl
    · exact A.ds.in_ _ (by simp)
    · exact A.ds.in_ _ (by simp)
    · exact A.ds.in_ _ (by simp)
    · exact hD
  simp only [List.mem_cons, List.not_mem_nil, or_false, not_or] at nD
  obtain ⟨n1, n2, n3⟩ := nD
  have s1 : Same (res (was H) H1) (res (was H) (upd H2 D u)) := res_up fun b o n e => ⟨n, by
    have nb : b ∉ [a, c, lf, D] := fun z => n (hx b z)
    rw [upd_ne fun z => nb (by rw [z]; simp)]
    exact B.kp b o (fun z => nb (by simp only [List.mem_cons, List.not_mem_nil, or_false] at z ⊢; rcases z with z | z | z <;> simp [z])) e⟩
  have s2 : Same (res (was H1) H2) (res (was H) (upd H2 D u)) := res_up fun b o n e => by
    refine ⟨fun z => n (was_up A.kp hx1 z), ?_⟩
    rw [upd_ne fun z => n (by rw [z]; exact hD)]
    exact e
  have e1 : mdsL [m] = m.mds := by rw [mdsL_cons, mdsL_nil, List.append_nil]
  refine ⟨⟨⟨by rw [upd_ne (Ne.symm n1)]; exact B.ds.st.lst, by rw [upd_ne (Ne.symm n2)]; exact B.ds.st.cel, B.ds.st.ne, B.ds.st.len, B.ds.st.cur0, B.ds.st.cnt0, B.ds.st.mix0, B.ds.st.mix1⟩, by rw [upd_ne (Ne.symm n3)]; exact B.ds.lfa, B.ds.na, B.ds.nc⟩, ?_, (A.at_.up s1).app (B.at_.up s2), ?_, ?_, ?_, ?_, Int.le_trans B.le A.le, ?_, ?_, fun x hx => (List.mem_append.mp hx).elim (A.cf x) (B.cf x)⟩
  · intro b o nb e
    rw [upd_ne fun z => nb (by rw [z]; simp)]
    exact B.kp b o (fun z => nb (by simp only [List.mem_cons, List.not_mem_nil, or_false] at z ⊢; rcases z with z | z | z <;> simp [z])) (A.kp b o nb e)
  · rw [mdsL_app, List.nodup_append]
    refine ⟨A.nd, B.nd, fun x hx y hy e => ?_⟩
    subst e
    obtain ⟨k1, g1⟩ := A.at_.has x hx
    obtain ⟨k2, g2⟩ := B.at_.has x hy
    exact (res_at g2).1 (was_of (res_at g1).2)
  · rw [lsaL_app, List.nodup_append]
    refine ⟨A.nl, B.nl, fun x hx y hy e => ?_⟩
    subst e
    obtain ⟨k1, g1⟩ := A.at_.hasL x hx
    obtain ⟨k2, g2⟩ := B.at_.hasL x hy
    exact (res_at g2).1 (was_of (res_at g1).2)
  · intro x hx
    rw [lsaL_app] at hx
    rcases List.mem_append.mp hx with hx | hx
    · exact A.xl x hx
    · obtain ⟨k2, g2⟩ := B.at_.hasL x hx
      exact fun z => (res_at g2).1 (hx1 x z)
  · rw [hgtL_app]
    exact Nat.max_le.mpr ⟨A.ht, B.ht⟩
  · have := A.ct
    have := B.ct
    rw [mdsL_app, List.length_append]
    omega
  · have := A.dr
    have := B.dr
    omega
/-- what was done before -/
theorem DrL.pre {D : Addr} (h : Ds H a c lf S L) (k : KpX [a, c, lf] H H0) (h0 : Ds H0 a c lf S0 L) (hc : S0.cnt ≤ S.cnt + (o0 : Int)) (nD : H D = none) (A : DrL Cs n [a, c, lf, D] a c lf H0 S0 L H1 S1 L1 ms p o) : DrL Cs n [a, c, lf] a c lf H S L H1 S1 L1 ms p (o0 + o) := by
  have s : Same (res (was H0) H1) (res (was H) H1) := res_up fun b u n e => ⟨fun z => n (was_up k h0.in_ z), e⟩
  refine ⟨A.ds, fun b u nb e => ?_, A.at_.up s, A.nd, A.nl, fun b hb z => A.xl b hb (by simp only [List.mem_cons, List.not_mem_nil, or_false] at z ⊢; rcases z with z | z | z <;> simp [z]), A.ht, A.le, A.ct, ?_, A.cf⟩
  · refine A.kp b u (fun z => ?_) (k b u nb e)
    simp only [List.mem_cons, List.not_mem_nil, or_false] at z nb
    rcases z with z | z | z | z
    · exact nb (.inl z)
    · exact nb (.inr (.inl z))
    · exact nb (.inr (.inr z))
    · rw [z, nD] at e; cases e
  · have := A.dr
    omega
theorem DrL.pre0 (h : Ds H a c lf S L) (k : KpX [a, c, lf] H H0) (h0 : Ds H0 a c lf S0 L) (hc : S0.cnt ≤ S.cnt + (o0 : Int)) (A : DrL Cs n [a, c, lf] a c lf H0 S0 L H1 S1 L1 ms p o) : DrL Cs n [a, c, lf] a c lf H S L H1 S1 L1 ms p (o0 + o) := by
  have s : Same (res (was H0) H1) (res (was H) H1) := res_up fun b u n e => ⟨fun z => n (was_up k h0.in_ z), e⟩
  refine ⟨A.ds, k.trans A.kp, A.at_.up s, A.nd, A.nl, A.xl, A.ht, A.le, A.ct, ?_, A.cf⟩
  have := A.dr
  omega
theorem DrL.le_ {p' o' n' : Nat} (A : DrL Cs n ex a c lf H S L H1 S1 L1 ms p o) (hp : p ≤ p') (ho : o ≤ o') (hn : n ≤ n') : DrL Cs n' ex a c lf H S L H1 S1 L1 ms p' o' := by
  have := A.ct
  have := A.dr
  exact ⟨A.ds, A.kp, A.at_, A.nd, A.nl, A.xl, Nat.le_trans A.ht hn, A.le, by omega, by omega, A.cf⟩
/-- a constant -/
theorem DrL.cst {v : V} (h : Ds H a c lf S L) (k : KpX [a, c, lf] H H1) (h1 : Ds H1 a c lf S1 L) (hc : S1.cnt ≤ S.cnt + (o : Int)) (x : Cst Cs (res (was H) H1) v) : DrL Cs n [a, c, lf] a c lf H S L H1 S1 L [.at_ v] 0 o := by
  have e1 : mdsL [MT.at_ v] = [] := by rw [mdsL_cons, mdsL_nil, mds_at]; rfl
  refine ⟨h1, k, .cons (.at_ x) .nil, by rw [e1]; exact List.nodup_nil, by rw [lsaL_one, lsa_at]; exact List.nodup_nil, fun b hb => (by rw [lsaL_one, lsa_at] at hb; cases hb), ?_, Int.le_refl _, by rw [e1]; simp, by omega, fun m hm => (by rw [List.mem_singleton.mp hm]; exact .at_)⟩
  rw [hgtL_cons, hgtL_nil, hgt_at]
  exact Nat.zero_le _
/-- a list of what was drawn -/
theorem DrL.lst {D : Addr} (h : H D = none) (Dn : D ∉ lsaL ms) (Dx : D ∉ [a, c, lf]) (A : DrL Cs n [a, c, lf] a c lf H S L H1 S1 L1 ms p o) (hD : H1 D = some (.lst (ms.map MT.val))) (hl : ms.length ≤ 50) : DrL Cs (n + 1) [a, c, lf] a c lf H S L H1 S1 L1 [.ls D ms] p o := by
  have e1 : mdsL [MT.ls D ms] = mdsL ms := by rw [mdsL_cons, mdsL_nil, mds_ls, List.append_nil]
  refine ⟨A.ds, A.kp, .cons (.ls (res_in (not_was h) hD) (Nat.le_trans hl (by decide)) A.at_) .nil, by rw [e1]; exact A.nd, by rw [lsaL_one, lsa_ls, List.nodup_cons]; exact ⟨Dn, A.nl⟩, fun b hb => (by
    rw [lsaL_one, lsa_ls] at hb
    rcases List.mem_cons.mp hb with rfl | hb
    · exact Dx
    · exact A.xl b hb), ?_, A.le, by rw [e1]; exact A.ct, A.dr, fun m hm => (by rw [List.mem_singleton.mp hm]; exact .ls hl A.cf)⟩
  rw [hgtL_cons, hgtL_nil, hgt_ls]
  have := A.ht
  omega
end
end M4

namespace M4
open PySem PySem.Spec PyProof.Rows L2 StX TL
/-! ### a drawn part -/
abbrev sPr : Stmt := topS 32
abbrev nPr : List Str := ["_law_stream", "_law_held", "_law_left", "_law_deep", "_law_many", "_law_none", "_law_k"]
abbrev pPr : List Str := ["_law_stream", "_law_held", "_law_left", "_law_deep"]
theorem scPr : FnScope ["_law_stream", "_law_held", "_law_left", "_law_deep", "_law_many", "_law_none", "_law_k"] ["_law_stream", "_law_held", "_law_left", "_law_deep"] (defScope sPr) := ⟨rfl, rfl, rfl, by decide +kernel, rfl, by decide +kernel, by decide +kernel⟩
theorem okW_at {t : Nat} {h : Str} (ok : okW t h = true) : ∃ n c, t = n + 1 ∧ endC h = some c ∧ h.length ≤ 100 ∧
    (if (decide (c ∈ ("*+" : Str).cps.toList) || decide (V.str ⟨#[c]⟩ = V.str "?")) = true then okW n (inner h) = true else (leafB h || (HMT.lookup h).isSome) = true) := by
  cases t with
  | zero => cases ok
  | succ n =>
    unfold okW at ok
    cases e : endC h with
    | none => rw [e] at ok; cases ok
    | some c =>
      rw [e] at ok
      obtain ⟨h1, h2⟩ := Bool.and_eq_true_iff.mp ok
      refine ⟨n, c, rfl, rfl, of_decide_eq_true h1, ?_⟩
      split at h2
      · rename_i hc; rw [if_pos hc]; exact h2
      · rename_i hc; rw [if_neg hc]; exact h2
theorem pp_at {b : Bool} {n : Nat} {h : Str} {c : Nat} (e : endC h = some c) : pp b (n + 1) h = if decide (c ∈ ("*+" : Str).cps.toList) then ((if decide (V.str ⟨#[c]⟩ = V.str "+") then 1 else 0) + (if b then 0 else 2)) * pp b n (inner h)
        else if decide (V.str ⟨#[c]⟩ = V.str "?") then (if b then 0 else pp b n (inner h))
        else if leafB h then 0 else pm h := by
  rw [pp, e]
theorem od_at {n : Nat} {h : Str} {c : Nat} (e : endC h = some c) : od (n + 1) h = if decide (c ∈ ("*+" : Str).cps.toList) then 1 + 3 * od n (inner h) else if decide (V.str ⟨#[c]⟩ = V.str "?") then 1 + od n (inner h) else 1 := by
  rw [od, e]
theorem mks_at {n : Nat} {h : Str} {c : Nat} (e : endC h = some c) : mks (n + 1) h = if decide (c ∈ ("*+" : Str).cps.toList) || decide (V.str ⟨#[c]⟩ = V.str "?") then 1 + mks n (inner h) else 0 := by
  rw [mks, e]
theorem nf_at {n : Nat} {h : Str} {c : Nat} (e : endC h = some c) : nf (n + 1) h = if decide (c ∈ ("*+" : Str).cps.toList) then (if decide (V.str ⟨#[c]⟩ = V.str "+") then 1 + nf n (inner h) else 1) else if decide (V.str ⟨#[c]⟩ = V.str "?") then 1 else if leafB h then 1 else 1 + fm h := by
  rw [nf, e]
theorem fm_le {h : Str} (hm : (HMT.lookup h).isSome = true) : fm h ≤ 8 ∧ 1 ≤ fm h ∧ 1 ≤ pm h ∧ pm h ≤ 6 ∧ groupOk h = true := by
  obtain ⟨e, he⟩ := Option.isSome_iff_exists.mp hm
  have z := List.all_eq_true.mp hm_ok _ (lookMem he)
  obtain ⟨z1, z⟩ := Bool.and_eq_true_iff.mp z
  obtain ⟨z2, z⟩ := Bool.and_eq_true_iff.mp z
  obtain ⟨z3, z⟩ := Bool.and_eq_true_iff.mp z
  obtain ⟨z4, z5⟩ := Bool.and_eq_true_iff.mp z
  have e1 : fm h = e.2 := by unfold fm; rw [he]; rfl
  have e2 : pm h = e.1 := by unfold pm; rw [he]; rfl
  rw [e1, e2]
  exact ⟨of_decide_eq_true z3, of_decide_eq_true z4, of_decide_eq_true z2, of_decide_eq_true z5, z1⟩
theorem nf_pos {t : Nat} {h : Str} (ok : okW t h = true) : 1 ≤ nf t h ∧ nf t h ≤ mks t h + 9 := by
  induction t generalizing h with
  | zero => cases ok
  | succ n ih =>
    obtain ⟨n', c, e, hc, hl, hk⟩ := okW_at ok
    cases e
    rw [nf_at hc, mks_at hc]
    cases h1 : decide (c ∈ ("*+" : Str).cps.toList) with
    | true =>
      rw [h1, Bool.true_or, if_pos rfl] at hk
      have := ih hk
      simp only [Bool.true_or, if_true]
      split <;> omega
    | false =>
      rw [h1, Bool.false_or] at hk
      simp only [Bool.false_or, Bool.false_eq_true, if_false]
      cases h2 : decide (V.str ⟨#[c]⟩ = V.str "?") with
      | true =>
        rw [h2, if_pos rfl] at hk
        simp only [if_true]
        omega
      | false =>
        rw [h2, if_neg (by decide)] at hk
        simp only [Bool.false_eq_true, if_false]
        cases h3 : leafB h with
        | true => simp
        | false =>
          rw [h3, Bool.false_or] at hk
          have := fm_le hk
          simp only [Bool.false_eq_true, if_false]
          omega
def pb (L dp : Int) : Bool := decide (L < 1) || decide (dp < 1)
def spPr (Cs : Nat → Addr) (n : Nat) : Sp := fun vs H Q _ => ∃ (a c lf : Addr) (S : Stm) (L dp : Int) (h : Str) (t : Nat), vs = [.ref a, .str h, .ref lf, .int dp] ∧ Ds H a c lf S L ∧ okW t h = true ∧ 0 < n ∧ (pb L dp = true → nf t h ≤ n) ∧ (pb L dp = false → mks t h + 9 + 4 * dp.toNat ≤ n) ∧
  S.cnt + 1200 * (L.toNat : Int) + 60 * (pp (pb L dp) t h : Nat) + (od t h : Nat) ≤ 800000 ∧
  ∀ (H' : Hp) (S' : Stm) (L' : Int) (m : MT), DrL Cs n [a, c, lf] a c lf H S L H' S' L' [m] (pp (pb L dp) t h) (od t h) → Fit t h m → Q m.val H'
def spMd (Cs : Nat → Addr) (n : Nat) : Sp := fun vs H Q _ => ∃ (a c lf : Addr) (S : Stm) (L dp : Int) (h : Str), vs = [.ref a, .str h, .ref lf, .int dp] ∧ Ds H a c lf S L ∧ (HMT.lookup h).isSome = true ∧ 0 < n ∧ (pb (L - 1) dp = true → fm h ≤ n) ∧ (pb (L - 1) dp = false → 8 + 4 * dp.toNat ≤ n) ∧
  S.cnt + 1200 * (L.toNat : Int) + 60 * (pm h : Nat) ≤ 800000 ∧
  ∀ (H' : Hp) (S' : Stm) (L' : Int) (m : MT), isMd m = true → DrL Cs n [a, c, lf] a c lf H S L H' S' L' [m] (pm h) 0 → (∀ d pl sp k ps, m = .md d pl sp k ps → MAtL Cs (fun _ => none) (res (fun b => was H b ∨ b = pl) H') ps ∧ sp ≠ pl) → Q m.val H'
theorem many_val (e f : Bool) {x : Int} (h0 : 0 ≤ x) (h3 : x < 3) : ∃ m : Nat, (if e = true then (1 : Int) else 0) + x * (if f = true then (1 : Int) else 0) = (m : Int) ∧ m ≤ (if e = true then 1 else 0) + (if f = true then 2 else 0) := by
  refine ⟨((if e = true then (1 : Int) else 0) + x * (if f = true then (1 : Int) else 0)).toNat, ?_, ?_⟩
  · cases e <;> cases f <;> simp <;> omega
  · cases e <;> cases f <;> simp <;> omega
theorem pb_mono {L L' dp : Int} (hl : L' ≤ L) (e : pb L dp = true) : pb L' dp = true := by
  unfold pb at e ⊢
  rcases Bool.or_eq_true_iff.mp e with z | z
  · have := of_decide_eq_true z
    rw [decide_eq_true (by omega)]; rfl
  · rw [z, Bool.or_true]
theorem pp_mono {t : Nat} {h : Str} {L L' dp : Int} (hl : L' ≤ L) : pp (pb L' dp) t h ≤ pp (pb L dp) t h := by
  cases e : pb L dp with
  | false => cases pb L' dp with
    | false => exact Nat.le_refl _
    | true => exact pp_le t h
  | true =>
    have e' : pb L' dp = true := by
      unfold pb at e ⊢
      rcases Bool.or_eq_true_iff.mp e with z | z
      · have := of_decide_eq_true z
        rw [decide_eq_true (by omega)]; rfl
      · rw [z, Bool.or_true]
    rw [e']
    exact Nat.le_refl _
structure DDefs (P : Program) (w : World) (K : PySem.W.Frag) (mg : Str → Option Value) (base : Heap) (Cs : Nat → Addr) (fD fP fN : Addr) (dD dP dN : FuncData) : Prop where
  D : FnOk P w K mg base CX0 1 fD dD ["_law_stream", "_law_many"] spDraw
  bD : Binds K dD ["_law_stream", "_law_many"] []
  kD : PySem.W.keepIn K (.ref fD) = true
  mD : mg "_law_draw" = some (.ref fD)
  Pk : FnOk P w K mg base CX0 2 fP dP ["_law_stream", "_law_some"] (spPick K)
  bP : Binds K dP ["_law_stream", "_law_some"] []
  kP : PySem.W.keepIn K (.ref fP) = true
  mP : mg "_law_pick" = some (.ref fP)
  N : FnOk P w K mg base CX0 3 fN dN [] (spCn Cs)
  bN : Binds K dN [] []
  kN : PySem.W.keepIn K (.ref fN) = true
  mN : mg "_law_constants" = some (.ref fN)
section
variable {P : Program} {w : World} {K : PySem.W.Frag} {mg : Str → Option Value} {base : Heap} {Cs : Nat → Addr} {fD fP fN : Addr} {dD dP dN : FuncData}
theorem no_pr {f : Addr} {fd : FuncData} {k : Nat} {ps : List Str} : FnOk P w K mg base CX0 k f fd ps (spPr Cs 0) := by
  have no : ∀ vs H Q E, ¬ spPr Cs 0 vs H Q E := fun vs H Q E h => by
    obtain ⟨a, c, lf, S, L, dp, h, t, _, _, _, h1, _⟩ := h
    omega
  exact ⟨fun vs H Q E h => absurd h (no vs H Q E), fun A outer s H args us vs Q E _ _ _ _ h => absurd h (no vs H Q E)⟩
theorem no_md {f : Addr} {fd : FuncData} {k : Nat} {ps : List Str} : FnOk P w K mg base CX0 k f fd ps (spMd Cs 0) := by
  have no : ∀ vs H Q E, ¬ spMd Cs 0 vs H Q E := fun vs H Q E h => by
    obtain ⟨a, c, lf, S, L, dp, h, _, _, _, h1, _⟩ := h
    omega
  exact ⟨fun vs H Q E h => absurd h (no vs H Q E), fun A outer s H args us vs Q E _ _ _ _ h => absurd h (no vs H Q E)⟩
theorem ok_pr {f fM : Addr} {fd dM : FuncData} (F : Fun K "_law_part" "_law_part" sPr f fd) (bF : Binds K fd pPr []) (mF : mg "_law_part" = some (.ref f)) (Z : Blt mg) (Y : DDefs P w K mg base Cs fD fP fN dD dP dN) {n k : Nat} (hk : 3 ≤ k) (ih : FnOk P w K mg base CX0 k f fd pPr (spPr Cs n))
    (MO : FnOk P w K mg base CX0 k fM dM pPr (spMd Cs n)) (bO : Binds K dM pPr []) (kO : PySem.W.keepIn K (.ref fM) = true) (mO : mg "_law_model" = some (.ref fM)) : FnOk P w K mg base CX0 (k + 1) f fd pPr (spPr Cs (n + 1)) := by
  refine F.ok scPr (fun vs H Q E h => ?_) (fun cdv A outer s H vs Q E hr h => ?_)
  · obtain ⟨a, c, lf, S, L, dp, h, t, rfl, _⟩ := h
    rfl
  obtain ⟨a, c, lf, S, L, dp, h, t, rfl, hD, ok, _, hf1, hf2, hcnt, q⟩ := h
  have hr1 := hr.mono (show 1 ≤ k by omega)
  have hr2 := hr.mono (show 2 ≤ k by omega)
  have hr3 := hr.mono hk
  obtain ⟨n', ch, rfl, hc, hl, hk2⟩ := okW_at ok
  have hz : h.length ≤ sizeLine := by
    have z : (1000 : Nat) ≤ sizeLine := by decide
    omega
  have np := nf_pos ok
  refine ⟨_, (C8.pss_cut (ps_if (pt_cmpR op_in_sign (pe_ix ix_str (pv 1) (pe_un un_neg pe_int) (fun _ _ => rfl)) pe_str (by rfl)) (C8.pss_cut (ps_set (i := 4) scPr.nd rfl (.inl rfl) (pe_op op_add (pe_callTy call_int1 (by rfl) Z.it (by decide +kernel) (pa_cons (pe_cmpR op_eq (pe_ix ix_str (pv 1) (pe_un un_neg pe_int) (fun _ _ => rfl)) pe_str (nomark _)) pa_nil)) (pe_op op_mul (pe_call Y.D hr1 rfl Y.mD Y.kD Y.bD .nil pass0 (pa_cons (pv 0) (pa_cons pe_int pa_nil))) (pe_callTy call_int1 (by rfl) Z.it (by decide +kernel) (pa_cons (pe_and (pe_cmpR op_gt (pe_ix ix_list (pv 2) pe_int (fun _ _ => rfl)) pe_int (nomark _)) (pe_one (pe_cmpR op_gt (pv 3) pe_int (nomark _)))) pa_nil)))))
    (pss_one (ps_ret (pe_lc (own := [("_law_k", 6)]) (g := gName 6) (tt := tYes) rfl scPr.nd (pi_range1 (by rfl) Z.rg (pa_cons (pv 4) pa_nil)) (blkOk_by (own := [("_law_k", 6)]) (N := ["_law_stream", "_law_held", "_law_left", "_law_deep", "_law_many", "_law_none", "_law_k"]) (sc := (defScope sPr)) (by decide +kernel)) (fun _ _ _ _ _ => (pg_name (i := 6) scPr.nd rfl (.inl rfl))) (fun _ _ _ _ _ => pts_nil) (fun _ _ _ _ _ => (pe_call ih hr rfl mF F.kp bF .nil pass0 (pa_cons (pv 0) (pa_cons (pe_slice sl_str (pv 1) po_none (po_some (pe_un un_neg pe_int))) (pa_cons (pv 2) (pa_cons (pv 3) pa_nil)))))))))) pss_nil)
    (C8.pss_cut (ps_if (pt_cmpR op_eq (pe_ix ix_str (pv 1) (pe_un un_neg pe_int) (fun _ _ => rfl)) pe_str (nomark _)) (C8.pss_cut (ps_set (i := 5) scPr.nd rfl (.inl rfl) (pe_or (pe_cmpR op_lt (pe_ix ix_list (pv 2) pe_int (fun _ _ => rfl)) pe_int (nomark _)) (pe_or (pe_cmpR op_lt (pv 3) pe_int (nomark _)) (pe_one (pe_cmpR op_eq (pe_call Y.D hr1 rfl Y.mD Y.kD Y.bD .nil pass0 (pa_cons (pv 0) (pa_cons pe_int pa_nil))) pe_int (nomark _))))))
    (pss_one (ps_ret (pe_ifExp (pt_truth (pv 5) (fun _ => rfl)) pe_non (pe_call ih hr rfl mF F.kp bF .nil pass0 (pa_cons (pv 0) (pa_cons (pe_slice sl_str (pv 1) po_none (po_some (pe_un un_neg pe_int))) (pa_cons (pv 2) (pa_cons (pv 3) pa_nil))))))))) pss_nil)
    (C8.pss_cut (ps_if (pt_cmpR op_eq (pv 1) pe_str (nomark _)) (pss_one (ps_ret (pe_call Y.Pk hr2 rfl Y.mP Y.kP Y.bP .nil pass0 (pa_cons (pv 0) (pa_cons (pe_lst (pa_cons pe_str (pa_cons pe_str (pa_cons pe_str (pa_cons pe_str (pa_cons pe_str (pa_cons pe_str (pa_cons pe_str (pa_cons pe_str pa_nil))))))))) pa_nil))))) pss_nil)
    (C8.pss_cut (ps_if (pt_cmpR op_eq (pv 1) pe_str (nomark _)) (pss_one (ps_ret (pe_call Y.D hr1 rfl Y.mD Y.kD Y.bD .nil pass0 (pa_cons (pv 0) (pa_cons pe_int pa_nil))))) pss_nil)
    (C8.pss_cut (ps_if (pt_cmpR op_in_str (pv 1) pe_str (by rfl)) (pss_one (ps_ret (pe_call Y.Pk hr2 rfl Y.mP Y.kP Y.bP .nil pass0 (pa_cons (pv 0) (pa_cons (pe_ifExp (pt_cmpR op_eq (pv 1) pe_str (nomark _)) (pe_lst (pa_cons pe_non (pa_cons pe_bl (pa_cons pe_bl pa_nil)))) (pe_lst (pa_cons (pe_un un_neg pe_int) (pa_cons pe_int (pa_cons pe_int (pa_cons pe_int pa_nil)))))) pa_nil))))) pss_nil)
    (C8.pss_cut (ps_if (pt_cmpR op_eq (pv 1) pe_str (nomark _)) (pss_one (ps_ret (pe_ix ix_tup (pe_call Y.Pk hr2 rfl Y.mP Y.kP Y.bP .nil pass0 (pa_cons (pv 0) (pa_cons (pe_call0 Y.N hr3 (by rfl) Y.mN Y.kN Y.bN .nil pass0) pa_nil))) pe_int (fun _ _ => rfl)))) pss_nil)
    (pss_one (ps_ret (pe_call MO hr rfl mO kO bO .nil pass0 (pa_cons (pv 0) (pa_cons (pv 1) (pa_cons (pv 2) (pa_cons (pv 3) pa_nil))))))))))))), ?_⟩
  have c0 : S.cnt < 1000000 := by omega
  have hat : atI h.cps.toList (-1) = some ch := hc
  refine ⟨fun σ H2 => σ = [some (.ref a), some (.str h), some (.ref lf), some (.int dp), none, none, none] ∧ H2 = H ∧ decide (ch ∈ ("*+" : Str).cps.toList) = false, ?_, ?_⟩
  · refine ⟨_, rfl, _, rfl, h, -1, ch, rfl, rfl, hz, hat, ch, _, rfl, rfl, _, rfl, ?_⟩
    cases hs : decide (ch ∈ ("*+" : Str).cps.toList) with
    | false => exact iteF ⟨rfl, rfl, rfl⟩
    | true =>
      refine iteT ?_
      rw [hs, Bool.true_or, if_pos rfl] at hk2
      have epp : ∀ b, pp b (n' + 1) h = ((if decide (V.str ⟨#[ch]⟩ = V.str "+") then 1 else 0) + (if b then 0 else 2)) * pp b n' (inner h) := fun b => by rw [pp_at hc, hs, if_pos rfl]
      have eod : od (n' + 1) h = 1 + 3 * od n' (inner h) := by rw [od_at hc, hs, if_pos rfl]
      have emk : mks (n' + 1) h = 1 + mks n' (inner h) := by rw [mks_at hc, hs, Bool.true_or, if_pos rfl]
      have enf : nf (n' + 1) h = if decide (V.str ⟨#[ch]⟩ = V.str "+") then 1 + nf n' (inner h) else 1 := by rw [nf_at hc, hs, if_pos rfl]
      have np2 := nf_pos hk2
      refine ⟨fun σ H3 => ∃ (S3 : Stm) (m : Nat), σ = [some (.ref a), some (.str h), some (.ref lf), some (.int dp), some (.int (m : Int)), none, none] ∧ StmAt H3 a c S3 ∧ S3.cnt ≤ S.cnt + 1 ∧ Kept a c H H3 ∧
        m ≤ (if decide (V.str ⟨#[ch]⟩ = V.str "+") then 1 else 0) + (if pb L dp then 0 else 2), ?_, ?_⟩
      · refine ⟨_, rfl, _, rfl, h, -1, ch, rfl, rfl, hz, hat, rfl, .inr ⟨_, rfl, ?_⟩⟩
        refine ⟨_, rfl, a, c, S, 3, rfl, hD.st, c0, by decide, by decide, fun H1 S1 x h1 hx1 k1 x0 x1 => ?_⟩
        have h1l := k1 _ _ hD.na hD.nc hD.lfa
        refine ⟨_, rfl, lf, _, _, _, rfl, rfl, SqL.of h1l, rfl, _, _, rfl, rfl, ?_⟩
        have fin : ∀ b : Bool, (b = true → pb L dp = false) → ∃ m : Nat, (if decide (V.str ⟨#[ch]⟩ = V.str "+") = true then (1 : Int) else 0) + x * (if b = true then (1 : Int) else 0) = (m : Int) ∧ m ≤ (if decide (V.str ⟨#[ch]⟩ = V.str "+") = true then 1 else 0) + (if pb L dp then 0 else 2) := fun b hb => by
          obtain ⟨m, e, le⟩ := many_val (decide (V.str ⟨#[ch]⟩ = V.str "+")) b x0 x1
          refine ⟨m, e, Nat.le_trans le ?_⟩
          cases b with
          | false => simp
          | true => rw [hb rfl]; simp
        refine ⟨_, rfl, ite2 (fun c1 => ⟨_, rfl, _, _, rfl, rfl, .inr ⟨_, rfl, ?_⟩⟩) (fun c1 => .inr ⟨_, rfl, ?_⟩)⟩
        · obtain ⟨m, e, le⟩ := fin (decide (0 < dp)) fun z => by
            have z1 := of_decide_eq_true z
            have z2 := of_decide_eq_true c1
            unfold pb
            rw [decide_eq_false (by omega), decide_eq_false (by omega)]
            rfl
          exact ⟨_, _, rfl, rfl, .inl ⟨by omega, by omega⟩, _, _, rfl, rfl, S1, m, by rw [← e]; rfl, h1, hx1, k1, le⟩
        · obtain ⟨m, e, le⟩ := fin false fun z => by cases z
          exact ⟨_, _, rfl, rfl, .inl ⟨by omega, by omega⟩, _, _, rfl, rfl, S1, m, by rw [← e]; rfl, h1, hx1, k1, le⟩
      · rintro σ H3 ⟨S3, m, rfl, h3, hc3, k3, hm⟩
        have hm3 : m ≤ 3 := by
          revert hm
          cases decide (V.str ⟨#[ch]⟩ = V.str "+") <;> cases pb L dp <;> simp <;> omega
        refine ⟨_, rfl, _, rfl, by omega, by omega, fun D nD => ?_⟩
        have d3 := hD.draw h3 k3
        have d4 := d3.keep (same_new (o := .lst []) nD)
        have hD4 : (upd H3 D (.lst [])) D = some (.lst []) := upd_same
        have kk : KpX [a, c, lf] H (upd H3 D (.lst [])) := (KpX.kept k3).trans (KpX.same (same_new nD))
        have nDH : H D = none := k3.free h3.a0 h3.c0 nD
        have nDx : D ∉ [a, c, lf] := d3.ne nD
        obtain ⟨H4, eH4⟩ : ∃ X : Hp, X = upd H3 D (.lst []) := ⟨_, rfl⟩
        rw [← eH4] at d4 hD4 kk
        have hx : ∀ b ∈ [a, c, lf, D], was H4 b := fun b hb => by
          by_cases z : b = D
          · rw [z]; exact was_of hD4
          · refine d4.in_ b ?_
            simp only [List.mem_cons, List.not_mem_nil, or_false] at hb ⊢
            rcases hb with hb | hb | hb | hb
            · exact .inl hb
            · exact .inr (.inl hb)
            · exact .inr (.inr hb)
            · exact absurd hb z
        have hmm : (m : Int).toNat = m := by omega
        have mp : m * pp (pb L dp) n' (inner h) ≤ pp (pb L dp) (n' + 1) h := by rw [epp]; exact Nat.mul_le_mul_right _ hm
        have mi : ∀ i, i < m → (i + 1) * pp (pb L dp) n' (inner h) ≤ m * pp (pb L dp) n' (inner h) := fun i hi => Nat.mul_le_mul_right _ (by omega)
        have mo : ∀ i, i < m → (i + 1) * od n' (inner h) ≤ 3 * od n' (inner h) := fun i hi => Nat.mul_le_mul_right _ (by omega)
        have key : 0 < m → (pb L dp = true → nf n' (inner h) ≤ n) ∧ (pb L dp = false → mks n' (inner h) + 9 + 4 * dp.toNat ≤ n) := fun h0 => by
          refine ⟨fun e => ?_, fun e => ?_⟩
          · have z := hf1 e
            rw [enf] at z
            rw [e] at hm
            revert z hm
            cases decide (V.str ⟨#[ch]⟩ = V.str "+") <;> simp <;> omega
          · have z := hf2 e
            omega
        refine lc_range (lo := 0) (n := (m : Int).toNat) (fun i H5 => ∃ (S5 : Stm) (L5 : Int) (ms : List MT), DrL Cs n [a, c, lf, D] a c lf H4 S3 L H5 S5 L5 ms (i * pp (pb L dp) n' (inner h)) (i * od n' (inner h)) ∧ H5 D = some (.lst (ms.map MT.val)) ∧ ms.length = i ∧ ∀ x ∈ ms, Fit n' (inner h) x) ?_ ?_ ?_
        · rw [← eH4]
          exact ⟨S3, L, [], by rw [Nat.zero_mul, Nat.zero_mul]; exact .start d4, hD4, rfl, fun x hx => (by cases hx)⟩
        · rintro i H5 hi ⟨S5, L5, ms, A, hL, hlen, hfit⟩
          rw [hmm] at hi
          refine ⟨rfl, ?_⟩
          unfold tYes
          refine iteT ?_
          have e1 : (i + 1) * pp (pb L dp) n' (inner h) = i * pp (pb L dp) n' (inner h) + pp (pb L dp) n' (inner h) := Nat.succ_mul _ _
          have e2 : (i + 1) * od n' (inner h) = i * od n' (inner h) + od n' (inner h) := Nat.succ_mul _ _
          have hdr := A.dr
          have hmi := mi i hi
          have hmo := mo i hi
          have key := key (by omega)
          have hpm := pp_mono (t := n') (h := inner h) (dp := dp) A.le
          refine ⟨_, rfl, _, rfl, _, rfl, _, rfl, h, rfl, hz, _, rfl, _, rfl, ?_⟩
          refine ⟨a, c, lf, S5, L5, dp, inner h, n', rfl, A.ds, hk2, ?_, ?_, ?_, ?_, fun H6 S6 L6 m6 B fB => ?_⟩
          · cases e : pb L dp with
            | true => have := key.1 e; omega
            | false => have := key.2 e; omega
          · intro _
            cases e : pb L dp with
            | true => exact key.1 e
            | false => have := key.2 e; omega
          · intro z
            cases e : pb L dp with
            | true =>
              have z2 := pb_mono (dp := dp) A.le e
              rw [z2] at z; cases z
            | false => exact key.2 e
          · omega
          · have hD6 := B.kp D _ nDx hL
            refine ⟨ms.map MT.val, hD6, ?_, S6, L6, ms ++ [m6], ?_, ?_, ?_, ?_⟩
            · have zS : (1000 : Nat) ≤ sizeLine := by decide
              rw [List.length_map]
              omega
            · have z := A.step (u := .lst (ms.map MT.val ++ [m6.val])) hx (was_of hL) nDx B
              exact z.le_ (by omega) (by omega) (Nat.le_refl _)
            · rw [upd_same, List.map_append]
              rfl
            · rw [List.length_append, hlen]
              rfl
            · intro x hx
              rcases List.mem_append.mp hx with hx | hx
              · exact hfit x hx
              · rw [List.mem_singleton.mp hx]; exact fB
        · rintro H5 ⟨S5, L5, ms, A, hL, hlen, hfit⟩
          rw [hmm] at A hlen
          have hmo : m * od n' (inner h) ≤ 3 * od n' (inner h) := Nat.mul_le_mul_right _ hm3
          exact q H5 S5 L5 (.ls D ms) (((DrL.pre (o0 := 1) hD kk d4 hc3 nDH A).lst nDH (fun z => A.xl D z (by simp)) nDx hL (by omega)).le_ mp (by omega) (Nat.le_refl _)) (by rw [fit_at hc, hs, if_pos rfl]; exact ⟨D, ms, rfl, hfit⟩)
  rintro σ H2 ⟨rfl, rfl, hs⟩
  rw [hs, Bool.false_or] at hk2
  refine ⟨fun σ H3 => σ = [some (.ref a), some (.str h), some (.ref lf), some (.int dp), none, none, none] ∧ H3 = H2 ∧ decide (V.str ⟨#[ch]⟩ = V.str "?") = false, ?_, ?_⟩
  · refine ⟨_, rfl, _, rfl, h, -1, ch, rfl, rfl, hz, hat, rfl, _, rfl, ?_⟩
    cases hq : decide (V.str ⟨#[ch]⟩ = V.str "?") with
    | false => exact iteF ⟨rfl, rfl, rfl⟩
    | true =>
      refine iteT ?_
      rw [hq, if_pos rfl] at hk2
      have epp : ∀ b, pp b (n' + 1) h = if b then 0 else pp b n' (inner h) := fun b => by rw [pp_at hc, hs, if_neg (by decide), hq, if_pos rfl]
      have eod : od (n' + 1) h = 1 + od n' (inner h) := by rw [od_at hc, hs, if_neg (by decide), hq, if_pos rfl]
      have emk : mks (n' + 1) h = 1 + mks n' (inner h) := by rw [mks_at hc, hs, hq, Bool.false_or, if_pos rfl]
      have np2 := nf_pos hk2
      refine ⟨fun σ H3 => ∃ (S3 : Stm) (b : Bool), σ = [some (.ref a), some (.str h), some (.ref lf), some (.int dp), none, some (.bl b), none] ∧ StmAt H3 a c S3 ∧ S3.cnt ≤ S.cnt + 1 ∧ Kept a c H2 H3 ∧ (b = false → pb L dp = false), ?_, ?_⟩
      · refine ⟨_, rfl, lf, _, _, _, rfl, rfl, SqL.of hD.lfa, rfl, _, _, rfl, rfl, _, rfl, ite2 (fun c1 => ?_) (fun c1 => ?_)⟩
        · exact ⟨S, true, rfl, hD.st, by omega, Kept.refl _ _ _, fun z => by cases z⟩
        · refine ⟨_, rfl, _, _, rfl, rfl, _, rfl, ite2 (fun c2 => ?_) (fun c2 => ?_)⟩
          · exact ⟨S, true, rfl, hD.st, by omega, Kept.refl _ _ _, fun z => by cases z⟩
          · refine ⟨_, rfl, a, c, S, 2, rfl, hD.st, c0, by decide, by decide, fun H1 S1 x h1 hx1 k1 x0 x1 => ⟨rfl, ?_⟩⟩
            have hp : pb L dp = false := by
              unfold pb
              have z1 : ¬ L < 1 := fun z => c1 (decide_eq_true z)
              have z2 : ¬ dp < 1 := fun z => c2 (decide_eq_true z)
              rw [decide_eq_false z1, decide_eq_false z2]
              rfl
            exact ⟨S1, _, rfl, h1, hx1, k1, fun _ => hp⟩
      · rintro σ H3 ⟨S3, b, rfl, h3, hc3, k3, hp⟩
        have d3 := hD.draw h3 k3
        refine ⟨_, rfl, b, ?_, ?_⟩
        · rfl
        · cases b with
          | true => exact iteT (q H3 S3 L (.at_ .non) ((DrL.cst (o := 1) hD (KpX.kept k3) d3 hc3 .non).le_ (Nat.zero_le _) (by rw [eod]; omega) (Nat.le_refl _)) (by rw [fit_at hc, hs, if_neg (by decide), hq, if_pos rfl]; exact .inl rfl))
          | false =>
            refine iteF ?_
            have hp := hp rfl
            have hf := hf2 hp
            rw [hp] at hcnt q
            have ep : pp false (n' + 1) h = pp false n' (inner h) := by rw [epp]; rfl
            refine ⟨_, rfl, _, rfl, _, rfl, _, rfl, h, rfl, hz, _, rfl, _, rfl, a, c, lf, S3, L, dp, inner h, n', rfl, d3, hk2, by omega, fun _ => by omega, fun _ => by omega, by rw [hp]; omega, fun H6 S6 L6 m6 B fB => ?_⟩
            rw [hp] at B
            exact q H6 S6 L6 m6 ((DrL.pre0 (o0 := 1) hD (KpX.kept k3) d3 hc3 B).le_ (by omega) (by omega) (by omega)) (by rw [fit_at hc, hs, if_neg (by decide), hq, if_pos rfl]; exact .inr fB)
  rintro σ H3 ⟨rfl, rfl, hq⟩
  rw [hq, if_neg (by decide)] at hk2
  have eod : od (n' + 1) h = 1 := by rw [od_at hc, hs, if_neg (by decide), hq, if_neg (by decide)]
  have fin : ∀ (H' : Hp) (S' : Stm) (v : V), StmAt H' a c S' → S'.cnt ≤ S.cnt + 1 → Kept a c H3 H' → Cst Cs H' v → Q v H' := fun H' S' v h' hc' k' hv => by
    have d' := hD.draw h' k'
    exact q H' S' L (.at_ v) ((DrL.cst (o := 1) hD (KpX.kept k') d' hc' (cst_in (KpX.kept k') d'.in_ hv)).le_ (Nat.zero_le _) (by rw [eod]; omega) (Nat.zero_le _)) (by rw [fit_at hc, hs, if_neg (by decide), hq, if_neg (by decide)]; exact .inl ⟨_, rfl⟩)
  have strD : ∀ x y : Str, decide (V.str x = V.str y) = decide (x = y) := fun x y => by
    rw [Bool.eq_iff_iff]
    simp
  have pick : ∀ (H0 : Hp) (l : Addr) (xs : List V), Kept a c H3 H0 → StmAt H0 a c S → H0 l = some (.lst xs) → l ≠ a → l ≠ c → 0 < xs.length → xs.length < 1000 → ∀ (R : VK), (∀ (H' : Hp) (S' : Stm) (x : V), StmAt H' a c S' → S'.cnt ≤ S.cnt + 1 → Kept a c H3 H' → (∀ b o, b ≠ a → b ≠ c → H0 b = some o → H' b = some o) → x ∈ xs → R x H') →
      ∃ E, spPick K [.ref a, .ref l] H0 R E := fun H0 l xs k0 h0 hl n1 n2 p0 p1 R hR => by
    exact ⟨fun _ _ _ => False, a, c, l, S, xs, rfl, h0, c0, hl, n1, n2, p0, by omega, fun H' S' x h' hc' k' hx => hR H' S' x h' hc' (k0.trans k') k' hx⟩
  refine ⟨fun σ H4 => σ = [some (.ref a), some (.str h), some (.ref lf), some (.int dp), none, none, none] ∧ H4 = H3 ∧ h ≠ "N", ?_, ?_⟩
  · refine ⟨_, rfl, rfl, _, rfl, ?_⟩
    rw [strD]
    by_cases hn : h = "N"
    · rw [decide_eq_true hn]
      refine iteT ?_
      refine ⟨_, rfl, by show 8 ≤ sizeLine; decide, fun l nl => ?_⟩
      have s4 := same_new (o := .lst [.str "a", .str "b", .str "x", .str "f", .str "_", .str "match", .str "a1", .str "aB_9"]) nl
      refine ⟨a, c, l, S, _, rfl, hD.st.keep s4, c0, upd_same, (ne_of_none hD.st.lst nl).symm, (ne_of_none hD.st.cel nl).symm, by show 0 < 8; decide, by show 8 < 1000000; decide, fun H' S' x h' hc' k' hx => ?_⟩
      refine fin H' S' x h' hc' ((Kept.same s4).trans k') ?_
      simp only [List.mem_cons, List.not_mem_nil, or_false] at hx
      rcases hx with rfl | rfl | rfl | rfl | rfl | rfl | rfl | rfl <;> exact .str _
    · rw [decide_eq_false hn]
      exact iteF ⟨rfl, rfl, hn⟩
  rintro σ H4 ⟨rfl, rfl, hn⟩
  refine ⟨fun σ H5 => σ = [some (.ref a), some (.str h), some (.ref lf), some (.int dp), none, none, none] ∧ H5 = H4 ∧ h ≠ "B", ?_, ?_⟩
  · refine ⟨_, rfl, rfl, _, rfl, ?_⟩
    rw [strD]
    by_cases hb : h = "B"
    · rw [decide_eq_true hb]
      refine iteT ?_
      exact ⟨_, rfl, a, c, S, 2, rfl, hD.st, c0, by decide, by decide, fun H1 S1 x h1 hx1 k1 x0 x1 => fin H1 S1 _ h1 hx1 k1 (.int x)⟩
    · rw [decide_eq_false hb]
      exact iteF ⟨rfl, rfl, hb⟩
  rintro σ H5 ⟨rfl, rfl, hb⟩
  refine ⟨fun σ H6 => σ = [some (.ref a), some (.str h), some (.ref lf), some (.int dp), none, none, none] ∧ H6 = H5 ∧ gwB h = false, ?_, ?_⟩
  · refine ⟨_, rfl, _, _, rfl, rfl, _, rfl, ?_⟩
    show if gwB h = true then _ else _
    cases hg : gwB h with
    | true =>
      refine iteT ?_
      refine ⟨_, rfl, _, rfl, rfl, _, rfl, ite2 (fun _ => ?_) (fun _ => ?_)⟩
      · refine ⟨by show 3 ≤ sizeLine; decide, fun l nl => ?_⟩
        have s4 := same_new (o := .lst [.non, .bl true, .bl false]) nl
        refine ⟨a, c, l, S, _, rfl, hD.st.keep s4, c0, upd_same, (ne_of_none hD.st.lst nl).symm, (ne_of_none hD.st.cel nl).symm, by show 0 < 3; decide, by show 3 < 1000000; decide, fun H' S' x h' hc' k' hx => ?_⟩
        refine fin H' S' x h' hc' ((Kept.same s4).trans k') ?_
        simp only [List.mem_cons, List.not_mem_nil, or_false] at hx
        rcases hx with rfl | rfl | rfl
        · exact .non
        · exact .bl _
        · exact .bl _
      · refine ⟨_, rfl, by show 4 ≤ sizeLine; decide, fun l nl => ?_⟩
        have s4 := same_new (o := .lst [.int (-1), .int 97, .int 114, .int 115]) nl
        refine ⟨a, c, l, S, _, rfl, hD.st.keep s4, c0, upd_same, (ne_of_none hD.st.lst nl).symm, (ne_of_none hD.st.cel nl).symm, by show 0 < 4; decide, by show 4 < 1000000; decide, fun H' S' x h' hc' k' hx => ?_⟩
        refine fin H' S' x h' hc' ((Kept.same s4).trans k') ?_
        simp only [List.mem_cons, List.not_mem_nil, or_false] at hx
        rcases hx with rfl | rfl | rfl | rfl <;> exact .int _
    | false => exact iteF ⟨rfl, rfl, rfl⟩
  rintro σ H6 ⟨rfl, rfl, hg⟩
  refine ⟨fun σ H7 => σ = [some (.ref a), some (.str h), some (.ref lf), some (.int dp), none, none, none] ∧ H7 = H6 ∧ h ≠ "V", ?_, ?_⟩
  · refine ⟨_, rfl, rfl, _, rfl, ?_⟩
    rw [strD]
    by_cases hv : h = "V"
    · rw [decide_eq_true hv]
      refine iteT ?_
      refine ⟨_, rfl, rfl, fun H1 l ts s1 nl hl1 hlen hts => ?_⟩
      refine ⟨a, c, l, S, _, rfl, hD.st.keep s1, c0, hl1, (ne_of_none hD.st.lst nl).symm, (ne_of_none hD.st.cel nl).symm, by rw [List.length_map, hlen]; decide, by rw [List.length_map, hlen]; decide, fun H' S' x h' hc' k' hx => ?_⟩
      obtain ⟨tu, htu, rfl⟩ := List.mem_map.mp hx
      obtain ⟨v, x, g1, g2⟩ := hts tu htu
      have g3 : H' tu = some (.tup [v, .str x]) := k' _ _ (fun z => by rw [z, (hD.st.keep s1).lst] at g1; cases g1) (fun z => by rw [z, (hD.st.keep s1).cel] at g1; cases g1) g1
      refine ⟨tu, _, _, _, rfl, rfl, SqT.of g3, rfl, ?_⟩
      refine fin H' S' v h' hc' ((Kept.same s1).trans k') ?_
      cases g2 with
      | non => exact .non
      | bl b => exact .bl b
      | int i => exact .int i
      | str y => exact .str y
      | obj hj hp hf => exact (Cst.obj hj hp hf).map fun b o i e => k' _ _ (fun z => by rw [z, (hD.st.keep s1).lst] at e; rw [← Option.some.inj e] at i; cases i) (fun z => by rw [z, (hD.st.keep s1).cel] at e; rw [← Option.some.inj e] at i; cases i) e
    · rw [decide_eq_false hv]
      exact iteF ⟨rfl, rfl, hv⟩
  rintro σ H7 ⟨rfl, rfl, hv⟩
  have hlf : leafB h = false := by
    unfold leafB
    rw [decide_eq_false hn, decide_eq_false hb, hg, decide_eq_false hv]
    rfl
  rw [hlf, Bool.false_or] at hk2
  have epp : ∀ b, pp b (n' + 1) h = pm h := fun b => by rw [pp_at hc, hs, if_neg (by decide), hq, if_neg (by decide), hlf, if_neg (by decide)]
  have enf : nf (n' + 1) h = 1 + fm h := by rw [nf_at hc, hs, if_neg (by decide), hq, if_neg (by decide), hlf, if_neg (by decide)]
  have emk : mks (n' + 1) h = 0 := by rw [mks_at hc, hs, hq, Bool.false_or, if_neg (by decide)]
  have hfm := fm_le hk2
  rw [enf] at hf1
  rw [emk] at hf2
  rw [epp] at hcnt q
  refine ⟨_, rfl, _, rfl, _, rfl, _, rfl, a, c, lf, S, L, dp, h, rfl, hD, hk2, ?_, fun _ => ?_, fun z => ?_, by omega, fun H' S' L' m hmd B _ => q H' S' L' m (B.le_ (Nat.le_refl _) (Nat.zero_le _) (by omega)) (by rw [fit_at hc, hs, if_neg (by decide), hq, if_neg (by decide)]; exact .inr hmd)⟩
  · cases e : pb L dp with
    | true => have := hf1 e; omega
    | false => have := hf2 e; omega
  · cases e : pb L dp with
    | true => have := hf1 e; omega
    | false => have := hf2 e; omega
  · cases e : pb L dp with
    | true =>
      rw [pb_mono (show L - 1 ≤ L by omega) e] at z
      cases z
    | false => have := hf2 e; omega
end
end M4

namespace M4
open PySem PySem.Spec PyProof.Rows L2 StX TL
/-! ### a drawn model -/
abbrev sMd : Stmt := topS 33
theorem scMd : FnScope ["_law_stream", "_law_held", "_law_left", "_law_deep", "_law_small", "_law_some", "_law_kind", "_law_parts", "_law_name", "_law_what"] ["_law_stream", "_law_held", "_law_left", "_law_deep"] (defScope sMd) := ⟨rfl, rfl, rfl, by decide +kernel, rfl, by decide +kernel, by decide +kernel⟩
structure MDefs (P : Program) (w : World) (K : PySem.W.Frag) (mg : Str → Option Value) (base : Heap) (fP fS fG fF : Addr) (dP dS dG dF : FuncData) : Prop where
  Pk : FnOk P w K mg base CX0 2 fP dP ["_law_stream", "_law_some"] (spPick K)
  bP : Binds K dP ["_law_stream", "_law_some"] []
  kP : PySem.W.keepIn K (.ref fP) = true
  mP : mg "_law_pick" = some (.ref fP)
  S : FnOk P w K mg base CX0 2 fS dS ["_law_stream"] spSp
  bS : Binds K dS ["_law_stream"] []
  kS : PySem.W.keepIn K (.ref fS) = true
  mS : mg "_law_spot" = some (.ref fS)
  G : FnOk P w K mg base CX0 1 fG dG ["_law_held"] spGr
  bG : Binds K dG ["_law_held"] []
  kG : PySem.W.keepIn K (.ref fG) = true
  mG : mg "_law_group" = some (.ref fG)
  F : FnOk P w K mg base CX0 3 fF dF ["_law_kind"] spFd
  bF : Binds K dF ["_law_kind"] []
  kF : PySem.W.keepIn K (.ref fF) = true
  mF : mg "_law_fields" = some (.ref fF)
/-- the law's small groups at p -/
def SmAt (H : Hp) (p : Addr) : Prop := ∃ l1 l2 l3, H p = some (.dK [(.inr "S", .ref l1), (.inr "E", .ref l2), (.inr "T", .ref l3)]) ∧ H l1 = some (.lst [.str "Pass", .str "Return"]) ∧ H l2 = some (.lst [.str "Name", .str "Constant"]) ∧ H l3 = some (.lst [.str "MatchAs"])
theorem SmAt.up {H H' : Hp} {p : Addr} (h : SmAt H p) (s : Same H H') : SmAt H' p := by
  obtain ⟨l1, l2, l3, h1, h2, h3, h4⟩ := h
  exact ⟨l1, l2, l3, s _ _ h1, s _ _ h2, s _ _ h3, s _ _ h4⟩
theorem strs_nin {H : Hp} {a c lf l : Addr} {S : Stm} {L : Int} {ys : List Str} (h : Ds H a c lf S L) (n : 0 < ys.length) (e : H l = some (.lst (ys.map V.str))) : l ∉ [a, c, lf] := fun z => by
  obtain ⟨y, r, rfl⟩ : ∃ y r, ys = y :: r := by
    cases ys with
    | nil => cases n
    | cons y r => exact ⟨y, r, rfl⟩
  simp only [List.mem_cons, List.not_mem_nil, or_false] at z
  rcases z with rfl | rfl | rfl
  · rw [h.st.lst] at e; cases e
  · rw [h.st.cel] at e
    have e : S.cells.map V.int = (y :: r).map V.str := HO.lst.inj (Option.some.inj e)
    cases hc : S.cells with
    | nil => rw [hc] at e; cases e
    | cons u v => rw [hc] at e; cases (List.cons.inj e).1
  · rw [h.lfa] at e; cases e
theorem SmAt.look {H : Hp} {p : Addr} (h : SmAt H p) (x : Str) : (∃ l G, DGet H p (.str x) (some (.ref l)) ∧ H l = some (.lst (G.map V.str)) ∧ smallT.lookup x = some G) ∨ (DGet H p (.str x) none ∧ smallT.lookup x = none) := by
  obtain ⟨l1, l2, l3, h1, h2, h3, h4⟩ := h
  have g := DGet.k (k := Sum.inr x) h1
  have inr_ne : ∀ {u v : Str}, u ≠ v → ¬ (Sum.inr u : Key) = Sum.inr v := fun n z => n (Sum.inr.inj z)
  unfold smallT
  by_cases e1 : x = "S"
  · subst e1
    exact .inl ⟨l1, ["Pass", "Return"], g, h2, rfl⟩
  by_cases e2 : x = "E"
  · subst e2
    exact .inl ⟨l2, ["Name", "Constant"], g, h3, rfl⟩
  by_cases e3 : x = "T"
  · subst e3
    exact .inl ⟨l3, ["MatchAs"], g, h4, rfl⟩
  refine .inr ⟨?_, ?_⟩
  · rw [valV_neg (inr_ne (Ne.symm e1)), valV_neg (inr_ne (Ne.symm e2)), valV_neg (inr_ne (Ne.symm e3))] at g
    exact g
  · rw [List.lookup_cons, beq_eq_false_iff_ne.mpr e1]
    dsimp only
    rw [List.lookup_cons, beq_eq_false_iff_ne.mpr e2]
    dsimp only
    rw [List.lookup_cons, beq_eq_false_iff_ne.mpr e3]
    rfl
theorem sumW_take {f : Str → Nat} {ps : List (List Str)} {i : Nat} {p : List Str} (h : ps[i]? = some p) : sumW f (ps.take (i + 1)) = sumW f (ps.take i) + f (whatOf p) := by
  unfold sumW
  rw [List.take_succ, h, List.map_append, List.sum_append]
  simp
theorem sumW_le {f : Str → Nat} : ∀ {ps : List (List Str)} {i : Nat}, sumW f (ps.take i) ≤ sumW f ps
  | [], i => by simp
  | p :: r, 0 => by simp [sumW]
  | p :: r, i + 1 => by
    have := sumW_le (f := f) (ps := r) (i := i)
    unfold sumW at this ⊢
    simp only [List.take_succ_cons, List.map_cons, List.sum_cons]
    omega
theorem sumW_mono {f g : Str → Nat} (h : ∀ w, f w ≤ g w) : ∀ {ps : List (List Str)}, sumW f ps ≤ sumW g ps
  | [] => Nat.le_refl _
  | p :: r => by
    have := sumW_mono h (ps := r)
    have := h (whatOf p)
    unfold sumW at *
    simp only [List.map_cons, List.sum_cons]
    omega
theorem kind_at {k : Str} (h : kindOk k = true) : (Fld.lookup k).isSome = true ∧ 1 + sumW (pp false 3) (fieldsP k) ≤ 21 ∧ ∀ p ∈ fieldsP k, ∃ nm w, p = [nm, w] ∧ okW 3 w = true ∧ mks 3 w ≤ 2 ∧ nf 3 w ≤ 10 ∧ od 3 w ≤ 7 := by
  obtain ⟨h1, h⟩ := Bool.and_eq_true_iff.mp h
  obtain ⟨h2, h3⟩ := Bool.and_eq_true_iff.mp h
  refine ⟨h1, of_decide_eq_true h3, fun p hp => ?_⟩
  have z := List.all_eq_true.mp h2 p hp
  unfold fldOk at z
  split at z
  · rename_i nm w
    obtain ⟨z1, z⟩ := Bool.and_eq_true_iff.mp z
    obtain ⟨z2, z⟩ := Bool.and_eq_true_iff.mp z
    obtain ⟨z3, z4⟩ := Bool.and_eq_true_iff.mp z
    exact ⟨nm, w, rfl, z1, of_decide_eq_true z2, of_decide_eq_true z3, of_decide_eq_true z4⟩
  · cases z
theorem group_at {h : Str} (g : groupOk h = true) : (grpTx h).length ≤ 1000 ∧ (0 < (groupP h).length ∧ (groupP h).length ≤ 100 ∧ ∀ k ∈ groupP h, kindOk k = true) ∧ 0 < (poorG h).length ∧ (poorG h).length ≤ 100 ∧ ∀ k ∈ poorG h, kindOk k = true ∧ poorOk h k = true := by
  obtain ⟨g1, g⟩ := Bool.and_eq_true_iff.mp g
  obtain ⟨g2, g⟩ := Bool.and_eq_true_iff.mp g
  obtain ⟨g3, g⟩ := Bool.and_eq_true_iff.mp g
  obtain ⟨g4, g⟩ := Bool.and_eq_true_iff.mp g
  obtain ⟨g5, g⟩ := Bool.and_eq_true_iff.mp g
  obtain ⟨g6, g⟩ := Bool.and_eq_true_iff.mp g
  obtain ⟨g7, g8⟩ := Bool.and_eq_true_iff.mp g
  exact ⟨of_decide_eq_true g1, ⟨of_decide_eq_true g2, of_decide_eq_true g3, fun k hk => List.all_eq_true.mp g4 k hk⟩, of_decide_eq_true g5, of_decide_eq_true g6, fun k hk => ⟨List.all_eq_true.mp g7 k hk, List.all_eq_true.mp g8 k hk⟩⟩
section
variable {P : Program} {w : World} {K : PySem.W.Frag} {mg : Str → Option Value} {base : Heap} {Cs : Nat → Addr} {fP fS fG fF : Addr} {dP dS dG dF : FuncData}
theorem ok_md {f fR : Addr} {fd dR : FuncData} (F : Fun K "_law_model" "_law_model" sMd f fd) (Z : Blt mg) (Y : MDefs P w K mg base fP fS fG fF dP dS dG dF) {n k : Nat} (hk : 3 ≤ k)
    (PT : FnOk P w K mg base CX0 k fR dR pPr (spPr Cs n)) (bP : Binds K dR pPr []) (kP : PySem.W.keepIn K (.ref fR) = true) (mP : mg "_law_part" = some (.ref fR)) : FnOk P w K mg base CX0 (k + 1) f fd pPr (spMd Cs (n + 1)) := by
  refine F.ok scMd (fun vs H Q E h => ?_) (fun cdv A outer s H vs Q E hr h => ?_)
  · obtain ⟨a, c, lf, S, L, dp, h, rfl, _⟩ := h
    rfl
  obtain ⟨a, c, lf, S, L, dp, h, rfl, hD, hm, _, hf1, hf2, hcnt, q⟩ := h
  have hr1 := hr.mono (show 1 ≤ k by omega)
  have hr2 := hr.mono (show 2 ≤ k by omega)
  have hr3 := hr.mono hk
  obtain ⟨hf8, hfp, hp1, hp6, hgr⟩ := fm_le hm
  refine ⟨_, (C8.pss_cut (ps_asg (pe_op op_sub (pe_ix ix_list (pv 2) pe_int (fun _ _ => rfl)) pe_int) (pg_sub (pv 2) pe_int set_list))
    (C8.pss_cut (ps_set (i := 4) scMd.nd rfl (.inl rfl) (pe_disp (pps_cons pe_str (pe_lst (pa_cons pe_str (pa_cons pe_str pa_nil))) (pps_cons pe_str (pe_lst (pa_cons pe_str (pa_cons pe_str pa_nil))) (pps_cons pe_str (pe_lst (pa_cons pe_str pa_nil)) pps_nil))) (by rfl) (by rfl) (fun z => by cases z) (by decide)))
    (C8.pss_cut (ps_set (i := 5) scMd.nd rfl (.inl rfl) (pe_call Y.G hr1 rfl Y.mG Y.kG Y.bG .nil pass0 (pa_cons (pv 1) pa_nil)))
    (C8.pss_cut (ps_if (PW.pt (pw_and (PW.pt (pw_or (pt_cmpR op_lt (pe_ix ix_list (pv 2) pe_int (fun _ _ => rfl)) pe_int (nomark _)) (pw_or1 (pt_cmpR op_lt (pv 3) pe_int (nomark _))))) (pw_and1 (pt_cmp (pc_din (hu_of hr) (pv 1) (pv 4)))))) (pss_one (ps_set (i := 5) scMd.nd rfl (.inl rfl) (pe_dget (hu_of hr) (pv 4) (pv 1) (fun _ _ => rfl)))) pss_nil)
    (C8.pss_cut (ps_set (i := 6) scMd.nd rfl (.inl rfl) (pe_call Y.Pk hr2 rfl Y.mP Y.kP Y.bP .nil pass0 (pa_cons (pv 0) (pa_cons (pv 5) pa_nil))))
    (C8.pss_cut (ps_setLc (i := 7) (own := [("_law_name", 8), ("_law_what", 9)]) (g := gTup K 2 (gCons (gName 8) (gCons (gName 9) (gNil)))) (tt := tYes) rfl scMd.nd rfl rfl (sw_true rfl rfl rfl (by decide +kernel)) (pi_list (pe_call Y.F hr3 rfl Y.mF Y.kF Y.bF .nil pass0 (pa_cons (pv 6) pa_nil))) (blkOk_by (own := [("_law_name", 8), ("_law_what", 9)]) (N := ["_law_stream", "_law_held", "_law_left", "_law_deep", "_law_small", "_law_some", "_law_kind", "_law_parts", "_law_name", "_law_what"]) (sc := (defScope sMd)) (by decide +kernel)) (fun _ _ _ _ _ => (pg_tup (by rfl) (pgs_cons (pg_name (i := 8) scMd.nd rfl (.inl rfl)) (pgs_cons (pg_name (i := 9) scMd.nd rfl (.inl rfl)) pgs_nil)))) (fun _ _ _ _ _ => pts_nil) (fun _ _ _ _ _ => (pe_call PT hr rfl mP kP bP .nil pass0 (pa_cons (pv 0) (pa_cons (pv 9) (pa_cons (pv 2) (pa_cons (pe_op op_sub (pv 3) pe_int) pa_nil)))))))
    (pss_one (ps_ret (pe_disp (pps_cons pe_str (pv 6) (pps_cons pe_str (pv 7) (pps_cons pe_str (pe_call Y.S hr2 rfl Y.mS Y.kS Y.bS .nil pass0 (pa_cons (pv 0) pa_nil)) pps_nil))) (by rfl) (by rfl) (fun z => by cases z) (by decide)))))))))), ?_⟩
  obtain ⟨gl, ⟨gg1, gg2, gg3⟩, gp1, gp2, gp3⟩ := group_at hgr
  refine ⟨fun σ H1 => σ = [some (.ref a), some (.str h), some (.ref lf), some (.int dp), none, none, none, none, none, none] ∧ Ds H1 a c lf S (L - 1) ∧ KpX [a, c, lf] H H1, ?_, ?_⟩
  · refine ⟨_, rfl, lf, _, _, _, rfl, rfl, SqL.of hD.lfa, rfl, _, _, rfl, rfl, _, rfl, lf, _, 0, 0, rfl, rfl, hD.lfa, rfl, rfl, ?_, ?_⟩
    · have hna := hD.na
      have hnc := hD.nc
      exact ⟨⟨by rw [upd_ne (Ne.symm hna)]; exact hD.st.lst, by rw [upd_ne (Ne.symm hnc)]; exact hD.st.cel, hD.st.ne, hD.st.len, hD.st.cur0, hD.st.cnt0, hD.st.mix0, hD.st.mix1⟩, upd_same, hna, hnc⟩
    · intro b o nb e
      rw [upd_ne fun z => nb (by rw [z]; simp)]
      exact e
  rintro σ H1 ⟨rfl, d1, k1⟩
  refine ⟨fun σ H2 => ∃ p, σ = [some (.ref a), some (.str h), some (.ref lf), some (.int dp), some (.ref p), none, none, none, none, none] ∧ Ds H2 a c lf S (L - 1) ∧ KpX [a, c, lf] H H2 ∧ SmAt H2 p, ?_, ?_⟩
  · refine fun p np => ⟨by show 2 ≤ sizeLine; decide, fun l1 n1 => ⟨by show 2 ≤ sizeLine; decide, fun l2 n2 => ⟨by show 1 ≤ sizeLine; decide, fun l3 n3 => ?_⟩⟩⟩
    have e0 : (upd H1 p (.dK [])) p = some (.dK []) := upd_same
    have p1 : p ≠ l1 := ne_of_none e0 n1
    have s1 := same_new (o := .lst [.str "Pass", .str "Return"]) n1
    have p2 : p ≠ l2 := ne_of_none (s1 _ _ e0) n2
    have s2 := same_new (o := .lst [.str "Name", .str "Constant"]) n2
    have p3 : p ≠ l3 := ne_of_none (s2 _ _ (s1 _ _ e0)) n3
    have s3 := same_new (o := .lst [.str "MatchAs"]) n3
    have s0 := same_new (o := .dK []) np
    refine ⟨s3 _ _ (s2 _ _ (s1 _ _ e0)), [(.inr "S", .ref l1), (.inr "E", .ref l2), (.inr "T", .ref l3)], rfl, by show 3 ≤ 15; decide, p, rfl, ?_⟩
    have e1 := s3 _ _ (s2 _ _ (upd_same (H := upd H1 p (.dK [])) (a := l1) (o := .lst [.str "Pass", .str "Return"])))
    have e2 := s3 _ _ (upd_same (H := upd (upd H1 p (.dK [])) l1 (.lst [.str "Pass", .str "Return"])) (a := l2) (o := .lst [.str "Name", .str "Constant"]))
    have e3 := upd_same (H := upd (upd (upd H1 p (.dK [])) l1 (.lst [.str "Pass", .str "Return"])) l2 (.lst [.str "Name", .str "Constant"])) (a := l3) (o := .lst [.str "MatchAs"])
    have s := (s0.trans s1).trans (s2.trans s3)
    generalize upd (upd (upd (upd H1 p (.dK [])) l1 (.lst [.str "Pass", .str "Return"])) l2 (.lst [.str "Name", .str "Constant"])) l3 (.lst [.str "MatchAs"]) = H2 at e1 e2 e3 s ⊢
    have sp : Same H1 (upd H2 p (.dK (mergeK [] [(.inr "S", .ref l1), (.inr "E", .ref l2), (.inr "T", .ref l3)]))) := fun b o e => by
      rw [upd_ne (ne_of_none e np)]
      exact s _ _ e
    exact ⟨d1.keep sp, k1.trans (KpX.same sp), l1, l2, l3, upd_same, by rw [upd_ne p1.symm]; exact e1, by rw [upd_ne p2.symm]; exact e2, by rw [upd_ne p3.symm]; exact e3⟩
  rintro σ H2 ⟨p, rfl, d2, k2, sm2⟩
  refine ⟨fun σ H3 => ∃ l, σ = [some (.ref a), some (.str h), some (.ref lf), some (.int dp), some (.ref p), some (.ref l), none, none, none, none] ∧ Ds H3 a c lf S (L - 1) ∧ KpX [a, c, lf] H H3 ∧ SmAt H3 p ∧ H3 l = some (.lst ((groupP h).map V.str)), ?_, ?_⟩
  · exact ⟨_, rfl, h, rfl, gl, fun H3 l s3 nl hl => ⟨l, rfl, d2.keep s3, k2.trans (KpX.same s3), sm2.up s3, hl⟩⟩
  rintro σ H3 ⟨l, rfl, d3, k3, sm3, hl3⟩
  refine ⟨fun σ H4 => ∃ l G, σ = [some (.ref a), some (.str h), some (.ref lf), some (.int dp), some (.ref p), some (.ref l), none, none, none, none] ∧ H4 = H3 ∧ H4 l = some (.lst (G.map V.str)) ∧ (G = groupP h ∨ G = poorG h) ∧ (pb (L - 1) dp = true → G = poorG h), ?_, ?_⟩
  · have no : pb (L - 1) dp = false → ∃ l' G, [some (V.ref a), some (.str h), some (.ref lf), some (.int dp), some (.ref p), some (.ref l), none, none, none, none] = [some (V.ref a), some (.str h), some (.ref lf), some (.int dp), some (.ref p), some (.ref l'), none, none, none, none] ∧ H3 = H3 ∧ H3 l' = some (.lst (G.map V.str)) ∧ (G = groupP h ∨ G = poorG h) ∧ (pb (L - 1) dp = true → G = poorG h) :=
      fun z => ⟨l, _, rfl, rfl, hl3, .inl rfl, fun y => by rw [z] at y; cases y⟩
    rcases sm3.look h with ⟨l', G, g1, g2, g3⟩ | ⟨g1, g3⟩
    · have g3 : G = poorG h := by unfold poorG; rw [g3]; rfl
      refine ⟨_, rfl, lf, _, _, _, rfl, rfl, SqL.of d3.lfa, rfl, _, _, rfl, rfl, _, rfl, ?_⟩
      refine ite2 (fun c1 => ?_) (fun c1 => ?_)
      · exact iteT ⟨_, rfl, _, rfl, p, _, rfl, g1, _, rfl, iteT ⟨_, rfl, _, rfl, p, .ref l', rfl, g1, l', G, rfl, rfl, g2, .inr g3, fun _ => g3⟩⟩
      · refine ⟨_, rfl, _, _, rfl, rfl, _, rfl, ite2 (fun c2 => ?_) (fun c2 => ?_)⟩
        · exact ⟨_, rfl, _, rfl, p, _, rfl, g1, _, rfl, iteT ⟨_, rfl, _, rfl, p, .ref l', rfl, g1, l', G, rfl, rfl, g2, .inr g3, fun _ => g3⟩⟩
        · refine no ?_
          unfold pb
          rw [decide_eq_false (fun z => c1 (decide_eq_true z)), decide_eq_false (fun z => c2 (decide_eq_true z))]
          rfl
    · have g3 : poorG h = groupP h := by unfold poorG; rw [g3]; rfl
      refine ⟨_, rfl, lf, _, _, _, rfl, rfl, SqL.of d3.lfa, rfl, _, _, rfl, rfl, _, rfl, ?_⟩
      refine ite2 (fun c1 => ?_) (fun c1 => ?_)
      · exact iteT ⟨_, rfl, _, rfl, p, _, rfl, g1, _, rfl, iteF ⟨l, groupP h, rfl, rfl, hl3, .inl rfl, fun _ => g3.symm⟩⟩
      · refine ⟨_, rfl, _, _, rfl, rfl, _, rfl, ite2 (fun c2 => ?_) (fun c2 => ?_)⟩
        · exact ⟨_, rfl, _, rfl, p, _, rfl, g1, _, rfl, iteF ⟨l, groupP h, rfl, rfl, hl3, .inl rfl, fun _ => g3.symm⟩⟩
        · refine no ?_
          unfold pb
          rw [decide_eq_false (fun z => c1 (decide_eq_true z)), decide_eq_false (fun z => c2 (decide_eq_true z))]
          rfl
  rintro σ H4 ⟨l, G, rfl, rfl, hl4, hG1, hG2⟩
  have G0 : 0 < G.length := by rcases hG1 with e | e <;> rw [e] <;> assumption
  have G1 : G.length ≤ 100 := by rcases hG1 with e | e <;> rw [e] <;> assumption
  have ln := strs_nin d3 G0 hl4
  simp only [List.mem_cons, List.not_mem_nil, or_false, not_or] at ln
  refine ⟨fun σ H5 => ∃ kd S5, σ = [some (.ref a), some (.str h), some (.ref lf), some (.int dp), some (.ref p), some (.ref l), some (.str kd), none, none, none] ∧ Ds H5 a c lf S5 (L - 1) ∧ S5.cnt ≤ S.cnt + 1 ∧ KpX [a, c, lf] H H5 ∧ kindOk kd = true ∧ (pb (L - 1) dp = true → poorOk h kd = true), ?_, ?_⟩
  · refine ⟨_, rfl, _, rfl, a, c, l, S, _, rfl, d3.st, by omega, hl4, ln.1, ln.2.1, by rw [List.length_map]; exact G0, by rw [List.length_map]; omega, fun H5 S5 x h5 c5 k5 hx => ?_⟩
    obtain ⟨kd, hkd, rfl⟩ := List.mem_map.mp hx
    refine ⟨kd, S5, rfl, d3.draw h5 k5, c5, k3.trans (KpX.kept k5), ?_, fun z => ?_⟩
    · rcases hG1 with e | e
      · exact gg3 kd (by rw [← e]; exact hkd)
      · exact (gp3 kd (by rw [← e]; exact hkd)).1
    · exact (gp3 kd (by rw [← hG2 z]; exact hkd)).2
  rintro σ H5 ⟨kd, S5, rfl, d5, c5, k5, kok, pok⟩
  obtain ⟨kr, ks, kf⟩ := kind_at kok
  have okr : okRow kd = true := by
    obtain ⟨rs, hrs⟩ := Option.isSome_iff_exists.mp kr
    exact (fields_row hrs).1
  have fl7 := fields_len kr
  obtain ⟨bb, ebb⟩ : ∃ bb, bb = pb (L - 1) (dp - 1) := ⟨_, rfl⟩
  have bbp : pb (L - 1) dp = true → bb = true := fun z => by
    rw [ebb]
    unfold pb at z ⊢
    rcases Bool.or_eq_true_iff.mp z with z | z
    · rw [z]; rfl
    · have := of_decide_eq_true z
      rw [decide_eq_true (show dp - 1 < 1 by omega), Bool.or_true]
  have pok2 : pb (L - 1) dp = true → 1 + sumW (pp true 3) (fieldsP kd) ≤ pm h ∧ ∀ p ∈ fieldsP kd, nf 3 (whatOf p) + 1 ≤ fm h := fun z => by
    obtain ⟨z1, z2⟩ := Bool.and_eq_true_iff.mp (pok z)
    exact ⟨of_decide_eq_true z1, fun p hp => of_decide_eq_true (List.all_eq_true.mp z2 p hp)⟩
  have rich : pb (L - 1) dp = false → 1 ≤ L - 1 ∧ 1 ≤ dp := fun z => by
    unfold pb at z
    obtain ⟨z1, z2⟩ := Bool.or_eq_false_iff.mp z
    have := of_decide_eq_false z1
    have := of_decide_eq_false z2
    omega
  have sumB : sumW (pp bb 3) (fieldsP kd) ≤ sumW (pp false 3) (fieldsP kd) := by
    cases bb with
    | false => exact Nat.le_refl _
    | true => exact sumW_mono (pp_le 3)
  -- what is spent on the parts
  have spent : 1200 * ((L - 1).toNat : Int) + 60 * (sumW (pp bb 3) (fieldsP kd) : Nat) + 60 ≤ 1200 * (L.toNat : Int) + 60 * (pm h : Nat) ∧ 20 * (L - 1).toNat + sumW (pp bb 3) (fieldsP kd) + 1 ≤ 20 * L.toNat + pm h := by
    cases e : pb (L - 1) dp with
    | true =>
      have z := (pok2 e).1
      rw [← bbp e] at z
      omega
    | false =>
      have z := rich e
      omega
  refine ⟨fun σ H6 => ∃ (D : Addr) (S6 : Stm) (L6 : Int) (ms : List MT), σ = [some (.ref a), some (.str h), some (.ref lf), some (.int dp), some (.ref p), some (.ref l), some (.str kd), some (.ref D), none, none] ∧ DrL Cs n [a, c, lf] a c lf H5 S5 (L - 1) H6 S6 L6 ms (sumW (pp bb 3) (fieldsP kd)) 49 ∧ H6 D = some (.lst (ms.map MT.val)) ∧ H5 D = none ∧ MAtL Cs (fun _ => none) (res (fun b => was H5 b ∨ b = D) H6) ms ∧ ms.length = (fieldsP kd).length ∧ FitsL kd ms, ?_, ?_⟩
  · refine ⟨_, rfl, kd, rfl, okr, fun H6 q6 s6 fa => ?_⟩
    obtain ⟨nq6, as, hq6, las, hat⟩ := fa
    refine ⟨q6, rfl, ⟨_, SqL.of hq6⟩, fun D nD => ?_⟩
    have d6 := d5.keep s6
    have q6x : q6 ∉ [a, c, lf] := d5.ne nq6
    have d7 := d6.keep (same_new (o := .lst []) nD)
    have hD7 : (upd H6 D (.lst [])) D = some (.lst []) := upd_same
    have s67 := same_new (o := .lst []) nD
    have qD : q6 ≠ D := ne_of_none hq6 nD
    have hq7 := s67 _ _ hq6
    have kk : KpX [a, c, lf] H5 (upd H6 D (.lst [])) := (KpX.same s6).trans (KpX.same s67)
    have nD5 : H5 D = none := s6.free nD
    have nDx : D ∉ [a, c, lf] := d6.ne nD
    obtain ⟨H7, eH7⟩ : ∃ X : Hp, X = upd H6 D (.lst []) := ⟨_, rfl⟩
    rw [← eH7] at d7 hD7 kk hq7 s67
    have hx : ∀ b ∈ [a, c, lf, D], was H7 b := fun b hb => by
      by_cases z : b = D
      · rw [z]; exact was_of hD7
      · refine d7.in_ b ?_
        simp only [List.mem_cons, List.not_mem_nil, or_false] at hb ⊢
        rcases hb with hb | hb | hb | hb
        · exact .inl hb
        · exact .inr (.inl hb)
        · exact .inr (.inr hb)
        · exact absurd hb z
    have q6y : q6 ∉ [a, c, lf, D] := fun z => by
      simp only [List.mem_cons, List.not_mem_nil, or_false] at z q6x
      rcases z with z | z | z | z
      · exact q6x (.inl z)
      · exact q6x (.inr (.inl z))
      · exact q6x (.inr (.inr z))
      · exact qD z
    refine lc_list (K := K) (a := q6) (xs := as.map V.ref) (fun i H8 => ∃ (S8 : Stm) (L8 : Int) (ms : List MT), DrL Cs n [a, c, lf, D] a c lf H7 S5 (L - 1) H8 S8 L8 ms (sumW (pp bb 3) ((fieldsP kd).take i)) (7 * i) ∧ H8 D = some (.lst (ms.map MT.val)) ∧ ms.length = i ∧ FitsL kd ms) ?_ (fun i H8 _ ⟨_, _, _, A, _, _⟩ => SqL.of (A.kp _ _ q6y hq7)) ?_ ?_
    · rw [← eH7]
      exact ⟨S5, L - 1, [], .start d7, hD7, rfl, fun i p fp e => (by simp at e)⟩
    · rintro i x H8 hx8 ⟨S8, L8, ms, A, hL, hlen, hfit⟩
      rw [List.getElem?_map] at hx8
      obtain ⟨b, hb, rfl⟩ := Option.map_eq_some_iff.mp hx8
      have hi : i < (fieldsP kd).length := by
        rcases Nat.lt_or_ge i as.length with z | z
        · omega
        · rw [List.getElem?_eq_none z] at hb; cases hb
      obtain ⟨pr, hpr⟩ : ∃ pr, (fieldsP kd)[i]? = some pr := ⟨_, List.getElem?_eq_getElem hi⟩
      obtain ⟨nb, hb6⟩ := hat i b pr hb hpr
      obtain ⟨nm, wh, rfl, w1, w2, w3, w4⟩ := kf pr (List.mem_of_getElem? hpr)
      have hb7 := s67 _ _ hb6
      have bx : b ∉ [a, c, lf, D] := fun z => by
        obtain ⟨o, e, nI⟩ := hx b z
        simp only [List.mem_cons, List.not_mem_nil, or_false] at z
        rcases z with rfl | rfl | rfl | rfl
        · rw [d7.st.lst] at hb7; cases hb7
        · rw [d7.st.cel] at hb7; cases hb7
        · rw [d7.lfa] at hb7; cases hb7
        · rw [hD7] at hb7; cases hb7
      refine ⟨b, [.str nm, .str wh], rfl, SqT.of (A.kp _ _ bx hb7), rfl, _, _, rfl, _, _, rfl, rfl, rfl, ?_⟩
      unfold tYes
      refine iteT ?_
      have hst := sumW_take (f := pp bb 3) hpr
      have hsl := sumW_le (f := pp bb 3) (ps := fieldsP kd) (i := i + 1)
      have hww : whatOf [nm, wh] = wh := rfl
      rw [hww] at hst
      have hdr := A.dr
      have hle := A.le
      have hpm := pp_mono (t := 3) (h := wh) (dp := dp - 1) A.le
      rw [← ebb] at hpm
      have nfw : pb (L - 1) dp = true → nf 3 wh + 1 ≤ fm h := fun z => (pok2 z).2 _ (List.mem_of_getElem? hpr)
      have np := nf_pos w1
      refine ⟨_, rfl, _, rfl, _, rfl, _, rfl, _, _, rfl, rfl, ?_⟩
      refine ⟨a, c, lf, S8, L8, dp - 1, wh, 3, rfl, A.ds, w1, ?_, fun z => ?_, fun z => ?_, by omega, fun H9 S9 L9 m9 B fB => ?_⟩
      · cases e : pb (L - 1) dp with
        | true => have := nfw e; have := hf1 e; omega
        | false => have := hf2 e; omega
      · cases e : pb (L - 1) dp with
        | true => have := nfw e; have := hf1 e; omega
        | false => have := hf2 e; have := rich e; omega
      · have z2 : 1 ≤ L8 ∧ 1 ≤ dp - 1 := by
          unfold pb at z
          obtain ⟨z1, z2⟩ := Bool.or_eq_false_iff.mp z
          have := of_decide_eq_false z1
          have := of_decide_eq_false z2
          omega
        have e : pb (L - 1) dp = false := by
          unfold pb
          rw [decide_eq_false (by omega), decide_eq_false (by omega)]
          rfl
        have := hf2 e
        omega
      · have hD9 := B.kp D _ nDx hL
        refine ⟨ms.map MT.val, hD9, ?_, S9, L9, ms ++ [m9], ?_, ?_, ?_, ?_⟩
        · have zS : (1000 : Nat) ≤ sizeLine := by decide
          rw [List.length_map]
          omega
        · have z := A.step (u := .lst (ms.map MT.val ++ [m9.val])) hx (was_of hL) nDx B
          exact z.le_ (by omega) (by omega) (Nat.le_refl _)
        · rw [upd_same, List.map_append]
          rfl
        · rw [List.length_append, hlen]
          rfl
        · intro j p' fp e1 e2
          by_cases z : j < ms.length
          · rw [List.getElem?_append_left z] at e1
            exact hfit j p' fp e1 e2
          · have en : j = ms.length := by
              have y := (List.getElem?_eq_some_iff.mp e1).1
              rw [List.length_append, List.length_singleton] at y
              omega
            subst en
            rw [List.getElem?_append_right (Nat.le_refl _), Nat.sub_self] at e1
            rw [hlen, hpr] at e2
            cases e1
            cases e2
            exact ⟨nm, wh, rfl, fB⟩
    · rintro H8 ⟨S8, L8, ms, A, hL, hlen, hfit⟩
      rw [List.length_map, las] at A hlen
      rw [List.take_length] at A
      exact ⟨D, S8, L8, ms, rfl, (DrL.pre (o0 := 0) d5 kk d7 (by omega) nD5 A).le_ (Nat.le_refl _) (by omega) (Nat.le_refl _), hL, nD5, A.at_.up (res_up fun b o n e => ⟨fun z => n (z.elim (fun z => was_up kk d7.in_ z) fun z => by rw [z]; exact was_of hD7), e⟩), hlen, hfit⟩
  rintro σ H6 ⟨D, S6, L6, ms, rfl, A, hL, nD5, sepD, hlen, hfit⟩
  have hdr := A.dr
  have hct := A.ct
  refine fun w np6 => ⟨_, rfl, _, rfl, _, rfl, ?_⟩
  have d7 := A.ds.keep (same_new (o := .dK []) np6)
  have s7 := same_new (o := .dK []) np6
  have e7 : (upd H6 w (.dK [])) w = some (.dK []) := upd_same
  generalize upd H6 w (.dK []) = H7 at d7 s7 e7 ⊢
  refine ⟨a, c, S6, rfl, d7.st, by omega, fun H8 S8 sp xs h8 c8 k8 nsp hsp xl xn => ?_⟩
  have wx : w ∉ [a, c, lf] := A.ds.ne np6
  have wx2 := wx
  simp only [List.mem_cons, List.not_mem_nil, or_false, not_or] at wx2
  have e8 := k8 _ _ wx2.1 wx2.2.1 e7
  refine ⟨e8, [(.inr "kind", .str kd), (.inr "parts", .ref D), (.inr "spot", .ref sp)], rfl, by show 3 ≤ 15; decide, ?_⟩
  have em : mergeK [] [((.inr "kind" : Key), V.str kd), (.inr "parts", .ref D), (.inr "spot", .ref sp)] = mdKv kd D sp none := rfl
  rw [em]
  have d8 := d7.draw h8 k8
  have Dw : D ≠ w := ne_of_none hL np6
  have Dx : D ∉ [a, c, lf] := d5.ne nD5
  have Dx2 := Dx
  simp only [List.mem_cons, List.not_mem_nil, or_false, not_or] at Dx2
  have spw : sp ≠ w := fun z => by rw [z, e7] at nsp; cases nsp
  have nsp6 : H6 sp = none := s7.free nsp
  -- what stood before the dict
  have k69 : KpX [a, c, lf] H6 (upd H8 w (.dK (mdKv kd D sp none))) := fun b o nb e => by
    rw [upd_ne (ne_of_none e np6)]
    exact KpX.kept k8 b o nb (s7 _ _ e)
  have k59 := A.kp.trans k69
  have k09 := k5.trans k59
  have up5 : ∀ b, was H b → was H5 b := fun b z => was_up k5 d5.in_ z
  have up6 : ∀ b, was H b → was H6 b := fun b z => was_up A.kp A.ds.in_ (up5 b z)
  have sR : Same (res (was H5) H6) (res (was H) (upd H8 w (.dK (mdKv kd D sp none)))) := res_up fun b o n e => ⟨fun z => n (up5 b z), k69 b o (fun z => n (d5.in_ b z)) e⟩
  have rw_ : res (was H) (upd H8 w (.dK (mdKv kd D sp none))) w = some (.dK (mdKv kd D sp none)) := res_in (fun z => not_was np6 (up6 w z)) upd_same
  have rD : res (was H) (upd H8 w (.dK (mdKv kd D sp none))) D = some (.lst (ms.map MT.val)) := res_in (fun z => not_was nD5 (up5 D z)) (k69 D _ Dx hL)
  have rsp : res (was H) (upd H8 w (.dK (mdKv kd D sp none))) sp = some (.lst xs) := res_in (fun z => not_was nsp6 (up6 sp z)) (by rw [upd_ne spw]; exact hsp)
  have e1 : mdsL [MT.md w D sp kd ms] = w :: mdsL ms := by rw [mdsL_cons, mdsL_nil, mds_md, List.append_nil]
  refine q _ S8 L6 (.md w D sp kd ms) rfl ⟨⟨⟨by rw [upd_ne (Ne.symm wx2.1)]; exact h8.lst, by rw [upd_ne (Ne.symm wx2.2.1)]; exact h8.cel, h8.ne, h8.len, h8.cur0, h8.cnt0, h8.mix0, h8.mix1⟩, by rw [upd_ne (Ne.symm wx2.2.2)]; exact d8.lfa, d8.na, d8.nc⟩, k09, .cons (.md rw_ rD rsp xl xn kr hlen (A.at_.up sR)) .nil, ?_, ?_, ?_, ?_, ?_, ?_, ?_, fun x hx => (by rw [List.mem_singleton.mp hx]; exact .md A.cf hfit)⟩ fun d' pl' sp' k' ps' e => ?_
  · rw [e1, List.nodup_cons]
    refine ⟨fun z => ?_, A.nd⟩
    obtain ⟨kvs, g⟩ := A.at_.has w z
    have := (res_at g).2
    rw [np6] at this
    cases this
  · rw [lsaL_one, lsa_md, List.nodup_cons, List.nodup_cons]
    refine ⟨fun z => ?_, fun z => ?_, A.nl⟩
    · rcases List.mem_cons.mp z with z | z
      · exact ne_of_none hL nsp6 z
      · obtain ⟨k2, g2⟩ := sepD.hasL D z
        exact (res_at g2).1 (.inr rfl)
    · obtain ⟨k2, g2⟩ := A.at_.hasL sp z
      have y := (res_at g2).2
      rw [nsp6] at y
      cases y
  · intro b hb
    rw [lsaL_one, lsa_md] at hb
    rcases List.mem_cons.mp hb with rfl | hb
    · exact Dx
    · rcases List.mem_cons.mp hb with rfl | hb
      · exact A.ds.ne nsp6
      · exact A.xl b hb
  · rw [hgtL_cons, hgtL_nil, hgt_md]
    have := A.ht
    omega
  · have := A.le
    omega
  · rw [e1, List.length_cons]
    omega
  · omega
  · cases e
    exact ⟨sepD.up (res_up fun b o n e => ⟨fun z => n (z.imp (up5 b) id), k69 b o (fun z => n (.inl (d5.in_ b z))) e⟩), fun z => by rw [z, hL] at nsp6; cases nsp6⟩
end
end M4

namespace M4
open PySem PySem.Spec PyProof.Rows L2 StX TL
/-! ### parts and models of any height -/
theorem ok_draws {P : Program} {w : World} {K : PySem.W.Frag} {mg : Str → Option Value} {base : Heap} {Cs : Nat → Addr} {fD fP fN fS fG fF fA fM : Addr} {dD dP dN dS dG dF dA dM : FuncData}
    (FA : Fun K "_law_part" "_law_part" sPr fA dA) (bA : Binds K dA pPr []) (mA : mg "_law_part" = some (.ref fA)) (FM : Fun K "_law_model" "_law_model" sMd fM dM) (bM : Binds K dM pPr []) (mM : mg "_law_model" = some (.ref fM)) (Z : Blt mg)
    (Y : DDefs P w K mg base Cs fD fP fN dD dP dN) (W : MDefs P w K mg base fP fS fG fF dP dS dG dF) : ∀ n : Nat, FnOk P w K mg base CX0 (3 + n) fA dA pPr (spPr Cs n) ∧ FnOk P w K mg base CX0 (3 + n) fM dM pPr (spMd Cs n)
  | 0 => ⟨no_pr, no_md⟩
  | n + 1 => by
    obtain ⟨h1, h2⟩ := ok_draws FA bA mA FM bM mM Z Y W n
    exact ⟨ok_pr FA bA mA Z Y (Nat.le_add_right 3 n) h1 h2 bM FM.kp mM, ok_md FM Z W (Nat.le_add_right 3 n) h1 bA FA.kp mA⟩
/-- a whole model: at most 29 of them, at most 6 deep -/
def spWhole (Cs : Nat → Addr) : Sp := fun vs H Q _ => ∃ (a c lf : Addr) (S : Stm) (L dp : Int) (h : Str), vs = [.ref a, .str h, .ref lf, .int dp] ∧ Ds H a c lf S L ∧ (HMT.lookup h).isSome = true ∧ 2 ≤ L ∧ L ≤ 30 ∧ 1 ≤ dp ∧ dp ≤ 6 ∧ S.cnt ≤ 700000 ∧
  ∀ (H' : Hp) (S' : Stm) (m : MT), isMd m = true → StmAt H' a c S' → KpX [a, c, lf] H H' → MAt Cs (fun _ => none) (res (was H) H') m → m.mds.Nodup → m.lsa.Nodup → m.mds.length ≤ 606 → m.hgt ≤ 32 → S'.cnt ≤ S.cnt + 36360 → (∀ d pl sp k ps, m = .md d pl sp k ps → MAtL Cs (fun _ => none) (res (fun b => was H b ∨ b = pl) H') ps ∧ sp ≠ pl) → CfM m → Q m.val H'
theorem ok_whole {P : Program} {w : World} {K : PySem.W.Frag} {mg : Str → Option Value} {base : Heap} {Cs : Nat → Addr} {f : Addr} {fd : FuncData} (M : FnOk P w K mg base CX0 35 f fd pPr (spMd Cs 32)) : FnOk P w K mg base CX0 35 f fd pPr (spWhole Cs) := by
  refine M.imp fun vs H Q E h => ?_
  obtain ⟨a, c, lf, S, L, dp, h, rfl, hD, hm, l1, l2, d1, d2, hc, q⟩ := h
  obtain ⟨h8, h1, hp1, hp6, _⟩ := fm_le hm
  refine ⟨a, c, lf, S, L, dp, h, rfl, hD, hm, by decide, fun _ => by omega, fun _ => by omega, by omega, fun H' S' L' m hmd A sep => ?_⟩
  have ct := A.ct
  have dr := A.dr
  have ht := A.ht
  have nd := A.nd
  have nl := A.nl
  rw [lsaL_one] at nl
  have at_ : MAt Cs (fun _ => none) (res (was H) H') m := by
    have z := A.at_
    cases z with
    | cons h _ => exact h
  rw [mdsL_cons, mdsL_nil, List.append_nil] at ct nd
  rw [hgtL_cons, hgtL_nil] at ht
  exact q H' S' m hmd A.ds.st A.kp at_ nd nl (by omega) (by omega) (by omega) sep (A.cf m (List.mem_singleton.mpr rfl))
end M4

namespace M4
open PySem PySem.Spec PyProof.Rows L2 StX TL
/-! ### models get their nodes -/
/-- the dicts of the models ex alone change: each has its node now -/
structure Mv (ex : List Addr) (nd nd' : Addr → Option Addr) (H H' : Hp) : Prop where
  kp : KpX ex H H'
  out : ∀ d, d ∉ ex → nd' d = nd d
  in_ : ∀ d ∈ ex, ∀ k pl sp, H d = some (.dK (mdKv k pl sp (nd d))) → H' d = some (.dK (mdKv k pl sp (nd' d)))
  dk : ∀ d ∈ ex, ∃ kvs, H' d = some (.dK kvs)
section
variable {ex e1 e2 : List Addr} {nd nd1 nd2 nd' : Addr → Option Addr} {H H1 H2 H' : Hp} {K : PySem.W.Frag} {C : Addr} {Cs : Nat → Addr}
theorem Mv.same (s : Same H H') : Mv [] nd nd H H' := ⟨KpX.same s, fun _ _ => rfl, fun d hd => (by cases hd), fun d hd => (by cases hd)⟩
theorem Mv.trans (A : Mv e1 nd nd1 H H1) (B : Mv e2 nd1 nd2 H1 H2) : Mv (e1 ++ e2) nd nd2 H H2 := by
  refine ⟨fun b o n e => B.kp b o (fun z => n (List.mem_append_right _ z)) (A.kp b o (fun z => n (List.mem_append_left _ z)) e), fun d n => (B.out d fun z => n (List.mem_append_right _ z)).trans (A.out d fun z => n (List.mem_append_left _ z)), fun d hd k pl sp e => ?_, fun d hd => ?_⟩
  · have h1 : H1 d = some (.dK (mdKv k pl sp (nd1 d))) := by
      by_cases z : d ∈ e1
      · exact A.in_ d z k pl sp e
      · rw [A.out d z]; exact A.kp d _ z e
    by_cases z : d ∈ e2
    · exact B.in_ d z k pl sp h1
    · rw [B.out d z]; exact B.kp d _ z h1
  · by_cases z : d ∈ e2
    · exact B.dk d z
    · obtain ⟨kvs, h1⟩ := A.dk d ((List.mem_append.mp hd).resolve_right z)
      exact ⟨kvs, B.kp d _ z h1⟩
theorem Mv.perm (A : Mv e1 nd nd1 H H1) (h : ∀ b, b ∈ e1 ↔ b ∈ e2) : Mv e2 nd nd1 H H1 :=
  ⟨A.kp.mono fun b hb => (h b).mp hb, fun d n => A.out d fun z => n ((h d).mp z), fun d hd => A.in_ d ((h d).mpr hd), fun d hd => A.dk d ((h d).mpr hd)⟩
/-- a new thing is written -/
theorem Mv.upd_ (A : Mv ex nd nd' H H1) {D : Addr} {o : HO} (n : H D = none) (x : D ∉ ex) : Mv ex nd nd' H (upd H1 D o) := by
  refine ⟨fun b u nb e => ?_, A.out, fun d hd k pl sp e => ?_, fun d hd => ?_⟩
  · rw [upd_ne (ne_of_none e n)]
    exact A.kp b u nb e
  · rw [upd_ne (ne_of_none e n)]
    exact A.in_ d hd k pl sp e
  · obtain ⟨kvs, e⟩ := A.dk d hd
    exact ⟨kvs, by rw [upd_ne fun z => x (by rw [← z]; exact hd)]; exact e⟩
theorem Mv.none_ (A : Mv ex nd nd' H H') {b : Addr} (e : H' b = none) : H b = none := by
  by_cases z : b ∈ ex
  · obtain ⟨kvs, g⟩ := A.dk b z
    rw [e] at g; cases g
  · cases q : H b with
    | none => rfl
    | some o => rw [A.kp b o z q] at e; cases e
theorem Mv.kept (A : Mv ex nd nd' H H') (hx : ∀ d ∈ ex, ∃ kvs, H d = some (.dK kvs)) {b : Addr} {o : HO} (e : H b = some o) (n : ∀ kvs, o ≠ .dK kvs) : H' b = some o := by
  refine A.kp b o (fun z => ?_) e
  obtain ⟨kvs, g⟩ := hx b z
  rw [g] at e
  exact n kvs (Option.some.inj e).symm
theorem Cst.mv {v : V} (A : Mv ex nd nd' H H') (hx : ∀ d ∈ ex, ∃ kvs, H d = some (.dK kvs)) (h : Cst Cs H v) : Cst Cs H' v := h.map fun b o i e => A.kept hx e fun kvs z => by rw [z] at i; cases i
mutual
theorem MAt.mv (A : Mv ex nd nd' H H') (hx : ∀ d ∈ ex, ∃ kvs, H d = some (.dK kvs)) : ∀ {m : MT}, MAt Cs nd H m → MAt Cs nd' H' m
  | .md d _ _ _ _, .md h1 h2 h3 h4 h5 h6 h7 h8 => by
    refine .md ?_ (A.kept hx h2 fun _ z => by cases z) (A.kept hx h3 fun _ z => by cases z) h4 h5 h6 h7 (h8.mv A hx)
    by_cases z : d ∈ ex
    · exact A.in_ d z _ _ _ h1
    · rw [A.out d z]; exact A.kp d _ z h1
  | _, .at_ h => .at_ (h.mv A hx)
  | _, .ls h l hs => .ls (A.kept hx h fun _ z => by cases z) l (hs.mv A hx)
  | _, .tu h l hs => .tu (A.kept hx h fun _ z => by cases z) l (hs.mv A hx)
theorem MAtL.mv (A : Mv ex nd nd' H H') (hx : ∀ d ∈ ex, ∃ kvs, H d = some (.dK kvs)) : ∀ {ms : List MT}, MAtL Cs nd H ms → MAtL Cs nd' H' ms
  | _, .nil => .nil
  | _, .cons h hs => .cons (h.mv A hx) (hs.mv A hx)
end
def DdOk (Dd : Addr → Prop) (H : Hp) : Prop := ∀ b, Dd b → was H b
theorem DdOk.mv {Dd : Addr → Prop} (h : DdOk Dd H) (A : Mv ex nd nd' H H') : DdOk Dd H' := fun b hb => by
  by_cases z : b ∈ ex
  · obtain ⟨kvs, e⟩ := A.dk b z
    exact was_of e
  · obtain ⟨o, e, n⟩ := h b hb
    exact ⟨o, A.kp b o z e, n⟩
theorem DdOk.new {Dd : Addr → Prop} (h : DdOk Dd H) {p : Addr} (n : H p = none) : ¬ Dd p := fun z => not_was n (h p z)
theorem DdOk.same {Dd : Addr → Prop} (h : DdOk Dd H) (s : Same H H') : DdOk Dd H' := fun b hb => by
  obtain ⟨o, e, n⟩ := h b hb
  exact ⟨o, s _ _ e, n⟩
/-- what stands outside of Dd stands on -/
theorem Mv.res {Dd : Addr → Prop} (A : Mv ex nd nd' H H') (hx : ∀ d ∈ ex, Dd d) : Same (res Dd H) (res Dd H') := res_up fun b o n e => ⟨n, A.kp b o (fun z => n (hx b z)) e⟩
/-! ### what is made is as the model says -/
mutual
/-- S: where the model's spots stand; R: where what is made stands -/
inductive So (C : Addr) (nd : Addr → Option Addr) (S R : Hp) : MT → V → Prop
  | at_ {v : V} : So C nd S R (.at_ v) v
  | ls {a D : Addr} {ms : List MT} {xs : List V} : R D = some (.lst xs) → SoL C nd S R ms xs → So C nd S R (.ls a ms) (.ref D)
  | tu {a D : Addr} {ms : List MT} {xs : List V} : R D = some (.tup xs) → SoL C nd S R ms xs → So C nd S R (.tu a ms) (.ref D)
  | md {d pl sp p dx dn : Addr} {k : Str} {ps : List MT} {rs : List (Str × Str × Str)} {m : List (Key × V)} {vs : List V} : nd d = some p → R p = some (.ins C dx (nodeFs k m dn)) → R dn = some (.dK (fkv (namesOf rs) vs)) → Fld.lookup k = some rs → vs.length = rs.length →
      S sp = some (.lst [atV m "lineno", atV m "col_offset", atV m "end_lineno", atV m "end_col_offset"]) → SoL C nd S R ps vs → So C nd S R (.md d pl sp k ps) (.ref p)
inductive SoL (C : Addr) (nd : Addr → Option Addr) (S R : Hp) : List MT → List V → Prop
  | nil : SoL C nd S R [] []
  | cons {m : MT} {v : V} {ms : List MT} {vs : List V} : So C nd S R m v → SoL C nd S R ms vs → SoL C nd S R (m :: ms) (v :: vs)
end
mutual
theorem So.up {C : Addr} {nd nd' : Addr → Option Addr} {S R R' : Hp} (s : Same R R') : ∀ {m : MT} {v : V}, So C nd S R m v → (∀ d ∈ m.mds, nd' d = nd d) → So C nd' S R' m v
  | _, _, .at_, _ => .at_
  | _, _, .ls h hs, e => .ls (s _ _ h) (hs.up s (by rw [mds_ls] at e; exact e))
  | _, _, .tu h hs, e => .tu (s _ _ h) (hs.up s (by rw [mds_tu] at e; exact e))
  | _, _, .md (d := d) h1 h2 h3 h4 h5 h6 hs, e => .md ((e d (by rw [mds_md]; exact List.mem_cons_self ..)).trans h1) (s _ _ h2) (s _ _ h3) h4 h5 h6 (hs.up s fun b hb => e b (by rw [mds_md]; exact List.mem_cons_of_mem _ hb))
theorem SoL.up {C : Addr} {nd nd' : Addr → Option Addr} {S R R' : Hp} (s : Same R R') : ∀ {ms : List MT} {vs : List V}, SoL C nd S R ms vs → (∀ d ∈ mdsL ms, nd' d = nd d) → SoL C nd' S R' ms vs
  | _, _, .nil, _ => .nil
  | _, _, .cons h hs, e => .cons (h.up s fun b hb => e b (by rw [mdsL_cons]; exact List.mem_append_left _ hb)) (hs.up s fun b hb => e b (by rw [mdsL_cons]; exact List.mem_append_right _ hb))
end
mutual
/-- the spots may be looked up in any heap where the model's lists are the same -/
theorem So.at_heap {C : Addr} {Cs : Nat → Addr} {nd nd0 : Addr → Option Addr} {S S' R : Hp} (k : ∀ a xs, S' a = some (.lst xs) → S a = some (.lst xs)) : ∀ {m : MT} {v : V}, So C nd S R m v → MAt Cs nd0 S' m → So C nd S' R m v
  | _, _, .at_, _ => .at_
  | _, _, .ls h hs, .ls _ _ g => .ls h (hs.at_heap k g)
  | _, _, .tu h hs, .tu _ _ g => .tu h (hs.at_heap k g)
  | _, _, .md h1 h2 h3 h4 h5 h6 hs, .md _ _ g3 _ _ _ _ g => .md h1 h2 h3 h4 h5 (by
      have z := k _ _ g3
      rw [h6] at z
      rw [g3, ← z]) (hs.at_heap k g)
theorem SoL.at_heap {C : Addr} {Cs : Nat → Addr} {nd nd0 : Addr → Option Addr} {S S' R : Hp} (k : ∀ a xs, S' a = some (.lst xs) → S a = some (.lst xs)) : ∀ {ms : List MT} {vs : List V}, SoL C nd S R ms vs → MAtL Cs nd0 S' ms → SoL C nd S' R ms vs
  | _, _, .nil, _ => .nil
  | _, _, .cons h hs, .cons g gs => .cons (h.at_heap k g) (hs.at_heap k gs)
end
mutual
theorem So.fw {C : Addr} {nd : Addr → Option Addr} {S S' R : Hp} (s : Same S S') : ∀ {m : MT} {v : V}, So C nd S R m v → So C nd S' R m v
  | _, _, .at_ => .at_
  | _, _, .ls h hs => .ls h (hs.fw s)
  | _, _, .tu h hs => .tu h (hs.fw s)
  | _, _, .md h1 h2 h3 h4 h5 h6 hs => .md h1 h2 h3 h4 h5 (s _ _ h6) (hs.fw s)
theorem SoL.fw {C : Addr} {nd : Addr → Option Addr} {S S' R : Hp} (s : Same S S') : ∀ {ms : List MT} {vs : List V}, SoL C nd S R ms vs → SoL C nd S' R ms vs
  | _, _, .nil => .nil
  | _, _, .cons h hs => .cons (h.fw s) (hs.fw s)
end
/-! ### what of a made value is its own: the nodes' dicts, the lists -/
mutual
inductive Own (C : Addr) (nd : Addr → Option Addr) (R : Hp) : MT → V → List Addr → Prop
  | at_ {v : V} : Own C nd R (.at_ v) v []
  | ls {a D : Addr} {ms : List MT} {xs : List V} {A : List Addr} : R D = some (.lst xs) → OwnL C nd R ms xs A → Own C nd R (.ls a ms) (.ref D) (D :: A)
  | tu {a D : Addr} {ms : List MT} {xs : List V} {A : List Addr} : R D = some (.tup xs) → OwnL C nd R ms xs A → Own C nd R (.tu a ms) (.ref D) A
  | md {d pl sp p dx dn : Addr} {k : Str} {ps : List MT} {rs : List (Str × Str × Str)} {m : List (Key × V)} {vs : List V} {A : List Addr} : nd d = some p → R p = some (.ins C dx (nodeFs k m dn)) → R dn = some (.dK (fkv (namesOf rs) vs)) → Fld.lookup k = some rs → vs.length = rs.length →
      OwnL C nd R ps vs A → Own C nd R (.md d pl sp k ps) (.ref p) (dn :: A)
inductive OwnL (C : Addr) (nd : Addr → Option Addr) (R : Hp) : List MT → List V → List Addr → Prop
  | nil : OwnL C nd R [] [] []
  | cons {m : MT} {v : V} {ms : List MT} {vs : List V} {A B : List Addr} : Own C nd R m v A → OwnL C nd R ms vs B → OwnL C nd R (m :: ms) (v :: vs) (A ++ B)
end
mutual
theorem Own.up {C : Addr} {nd nd' : Addr → Option Addr} {R R' : Hp} (s : Same R R') : ∀ {m : MT} {v : V} {A : List Addr}, Own C nd R m v A → (∀ d ∈ m.mds, nd' d = nd d) → Own C nd' R' m v A
  | _, _, _, .at_, _ => .at_
  | _, _, _, .ls h hs, e => .ls (s _ _ h) (hs.up s (by rw [mds_ls] at e; exact e))
  | _, _, _, .tu h hs, e => .tu (s _ _ h) (hs.up s (by rw [mds_tu] at e; exact e))
  | _, _, _, .md (d := d) h1 h2 h3 h4 h5 hs, e => .md ((e d (by rw [mds_md]; exact List.mem_cons_self ..)).trans h1) (s _ _ h2) (s _ _ h3) h4 h5 (hs.up s fun b hb => e b (by rw [mds_md]; exact List.mem_cons_of_mem _ hb))
theorem OwnL.up {C : Addr} {nd nd' : Addr → Option Addr} {R R' : Hp} (s : Same R R') : ∀ {ms : List MT} {vs : List V} {A : List Addr}, OwnL C nd R ms vs A → (∀ d ∈ mdsL ms, nd' d = nd d) → OwnL C nd' R' ms vs A
  | _, _, _, .nil, _ => .nil
  | _, _, _, .cons h hs, e => .cons (h.up s fun b hb => e b (by rw [mdsL_cons]; exact List.mem_append_left _ hb)) (hs.up s fun b hb => e b (by rw [mdsL_cons]; exact List.mem_append_right _ hb))
end
mutual
theorem Own.has {C : Addr} {nd : Addr → Option Addr} {R : Hp} : ∀ {m : MT} {v : V} {A : List Addr}, Own C nd R m v A → ∀ a ∈ A, ∃ o, R a = some o ∧ isI o = false
  | _, _, _, .at_, a, ha => by cases ha
  | _, _, _, .ls h hs, a, ha => (List.mem_cons.mp ha).elim (fun z => ⟨_, z ▸ h, rfl⟩) (hs.has a)
  | _, _, _, .tu h hs, a, ha => hs.has a ha
  | _, _, _, .md h1 h2 h3 h4 h5 hs, a, ha => (List.mem_cons.mp ha).elim (fun z => ⟨_, z ▸ h3, rfl⟩) (hs.has a)
theorem OwnL.has {C : Addr} {nd : Addr → Option Addr} {R : Hp} : ∀ {ms : List MT} {vs : List V} {A : List Addr}, OwnL C nd R ms vs A → ∀ a ∈ A, ∃ o, R a = some o ∧ isI o = false
  | _, _, _, .nil, a, ha => by cases ha
  | _, _, _, .cons h hs, a, ha => (List.mem_append.mp ha).elim (h.has a) (hs.has a)
end
theorem OwnL.snoc {C : Addr} {nd : Addr → Option Addr} {R : Hp} {m : MT} {v : V} {B : List Addr} (x : Own C nd R m v B) : ∀ {ms : List MT} {vs : List V} {A : List Addr}, OwnL C nd R ms vs A → OwnL C nd R (ms ++ [m]) (vs ++ [v]) (A ++ B)
  | _, _, _, .nil => by
    have z := OwnL.cons x .nil
    rw [List.append_nil] at z
    exact z
  | _, _, _, .cons h hs => by
    rw [List.append_assoc]
    exact .cons h (OwnL.snoc x hs)
theorem nodeFs_d {k k' : Str} {m m' : List (Key × V)} {d d' : Addr} (h : nodeFs k m d = nodeFs k' m' d') : d = d' := by
  have z := congrArg (fun l : List (Str × V) => l[5]?) h
  have z : some ((("_fields" : Str), V.ref d)) = some ((("_fields" : Str), V.ref d')) := z
  exact V.ref.inj (congrArg Prod.snd (Option.some.inj z))
theorem fkv_inj {ns : List Str} : ∀ {vs us : List V}, vs.length = ns.length → us.length = ns.length → fkv ns vs = fkv ns us → vs = us := by
  induction ns with
  | nil =>
    intro vs us h1 h2 _
    rw [List.length_eq_zero_iff.mp h1, List.length_eq_zero_iff.mp h2]
  | cons n r ih =>
    intro vs us h1 h2 e
    cases vs with
    | nil => cases h1
    | cons v vs =>
      cases us with
      | nil => cases h2
      | cons u us =>
        unfold fkv at e
        rw [List.zipWith_cons_cons, List.zipWith_cons_cons] at e
        obtain ⟨e1, e2⟩ := List.cons.inj e
        have e3 : v = u := congrArg Prod.snd e1
        rw [e3, ih (Nat.succ.inj h1) (Nat.succ.inj h2) e2]
mutual
theorem Own.same_ {C : Addr} {nd : Addr → Option Addr} {R : Hp} : ∀ {m : MT} {v : V} {A B : List Addr}, Own C nd R m v A → Own C nd R m v B → A = B
  | _, _, _, _, .at_, .at_ => rfl
  | _, _, _, _, .ls h hs, .ls k ks => by
    rw [h] at k
    cases k
    rw [hs.same_ ks]
  | _, _, _, _, .tu h hs, .tu k ks => by
    rw [h] at k
    cases k
    exact hs.same_ ks
  | _, _, _, _, .md h1 h2 h3 h4 h5 hs, .md k1 k2 k3 k4 k5 ks => by
    rw [h2] at k2
    have z := HO.ins.inj (Option.some.inj k2)
    cases nodeFs_d z.2.2
    rw [h3] at k3
    rw [h4] at k4
    cases k4
    have lr : ∀ {r : List (Str × Str × Str)}, (namesOf r).length = r.length := fun {r} => by unfold namesOf; rw [List.length_map]
    have e := fkv_inj (h5.trans lr.symm) (k5.trans lr.symm) (HO.dK.inj (Option.some.inj k3))
    subst e
    rw [hs.same_ ks]
theorem OwnL.same_ {C : Addr} {nd : Addr → Option Addr} {R : Hp} : ∀ {ms : List MT} {vs : List V} {A B : List Addr}, OwnL C nd R ms vs A → OwnL C nd R ms vs B → A = B
  | _, _, _, _, .nil, .nil => rfl
  | _, _, _, _, .cons h hs, .cons k ks => by rw [h.same_ k, hs.same_ ks]
end
/-- its own things are new since H -/
def Frs (C : Addr) (nd : Addr → Option Addr) (R H : Hp) (m : MT) (v : V) : Prop := ∃ A, Own C nd R m v A ∧ A.Nodup ∧ ∀ a ∈ A, H a = none
def FrsL (C : Addr) (nd : Addr → Option Addr) (R H : Hp) (ms : List MT) (vs : List V) : Prop := ∃ A, OwnL C nd R ms vs A ∧ A.Nodup ∧ ∀ a ∈ A, H a = none
theorem FrsL.nil {C : Addr} {nd : Addr → Option Addr} {R H : Hp} : FrsL C nd R H [] [] := ⟨[], .nil, List.nodup_nil, fun a ha => by cases ha⟩
theorem FrsL.up {C : Addr} {nd nd' : Addr → Option Addr} {R R' H : Hp} {ms : List MT} {vs : List V} (h : FrsL C nd R H ms vs) (s : Same R R') (e : ∀ d ∈ mdsL ms, nd' d = nd d) : FrsL C nd' R' H ms vs := by
  obtain ⟨A, h1, h2, h3⟩ := h
  exact ⟨A, h1.up s e, h2, h3⟩
theorem Frs.up {C : Addr} {nd nd' : Addr → Option Addr} {R R' H : Hp} {m : MT} {v : V} (h : Frs C nd R H m v) (s : Same R R') (e : ∀ d ∈ m.mds, nd' d = nd d) : Frs C nd' R' H m v := by
  obtain ⟨A, h1, h2, h3⟩ := h
  exact ⟨A, h1.up s e, h2, h3⟩
/-- one more, made later -/
theorem FrsL.snoc {C : Addr} {nd : Addr → Option Addr} {R H H3 : Hp} {ms : List MT} {vs : List V} {m : MT} {v : V} (A : FrsL C nd R H ms vs) (st : ∀ {A : List Addr}, OwnL C nd R ms vs A → (∀ a ∈ A, H a = none) → ∀ a ∈ A, H3 a ≠ none) (fr : ∀ a, H3 a = none → H a = none) (B : Frs C nd R H3 m v) : FrsL C nd R H (ms ++ [m]) (vs ++ [v]) := by
  obtain ⟨A, h1, h2, h3⟩ := A
  obtain ⟨B, k1, k2, k3⟩ := B
  refine ⟨A ++ B, OwnL.snoc k1 h1, List.nodup_append.mpr ⟨h2, k2, fun a ha b hb e => ?_⟩, fun a ha => (List.mem_append.mp ha).elim (h3 a) fun z => fr a (k3 a z)⟩
  exact st h1 h3 a ha (by rw [e]; exact k3 b hb)
theorem SoL.snoc {C : Addr} {nd : Addr → Option Addr} {S R : Hp} {m : MT} {v : V} (x : So C nd S R m v) : ∀ {ms : List MT} {vs : List V}, SoL C nd S R ms vs → SoL C nd S R (ms ++ [m]) (vs ++ [v])
  | _, _, .nil => .cons x .nil
  | _, _, .cons h hs => .cons h (hs.snoc x)
/-! ### an item, a value, made of a model -/
structure IP (K : PySem.W.Frag) (C : Addr) (nd : Addr → Option Addr) (R : Hp) (m : MT) (v : V) : Prop where
  it : Itm K C R v
  tr : ∃ nl, TrL K C R (nodeOf C R v).toList nl ∧ ∀ n ls, All2 (MsN n) m.dict?.toList ls → ls.map (fun x => nd x.adr) = nl.map some
structure VP (K : PySem.W.Frag) (C : Addr) (nd : Addr → Option Addr) (R : Hp) (m : MT) (v : V) : Prop where
  vl : Vlu K C R v
  tr : ∃ nl, TrL K C R (kidsV C R v) nl ∧ ∀ n ls, All2 (MsN n) (below1 m) ls → ls.map (fun x => nd x.adr) = nl.map some
theorem dict_sub {m : MT} : List.Sublist (mdsL m.dict?.toList) m.mds := by
  cases e : m.dict? with
  | none => show List.Sublist (mdsL []) _; rw [mdsL_nil]; exact List.nil_sublist _
  | some x =>
    obtain ⟨rfl, _⟩ := dict_of e
    show List.Sublist (mdsL [x]) _
    rw [mdsL_cons, mdsL_nil, List.append_nil]
    exact List.Sublist.refl _
theorem map_nd {n : Nat} {ms ls : List MT} {l : List Addr} (h : All2 (MsN n) ms ls) (hl : List.Sublist (mdsL ms) l) (e : ∀ d ∈ l, nd' d = nd d) : ls.map (fun x => nd' x.adr) = ls.map (fun x => nd x.adr) :=
  List.map_congr_left fun x hx => e _ (hl.subset (h.mds (msN_mds n) x hx))
theorem IP.up {R R' : Hp} {m : MT} {v : V} (h : IP K C nd R m v) (s : Same R R') (e : ∀ d ∈ m.mds, nd' d = nd d) : IP K C nd' R' m v := by
  obtain ⟨nl, t, f⟩ := h.tr
  refine ⟨h.it.up s, nl, ?_, fun n ls a => (map_nd a dict_sub e).trans (f n ls a)⟩
  rw [nodeOf_up h.it.1 s]
  exact t.up s
theorem VP.up {R R' : Hp} {m : MT} {v : V} (h : VP K C nd R m v) (s : Same R R') (e : ∀ d ∈ m.mds, nd' d = nd d) : VP K C nd' R' m v := by
  obtain ⟨nl, t, f⟩ := h.tr
  obtain ⟨v1, v2⟩ := h.vl.up s
  refine ⟨v1, nl, ?_, fun n ls a => (map_nd a below1_sub e).trans (f n ls a)⟩
  rw [v2]
  exact t.up s
inductive IPL (K : PySem.W.Frag) (C : Addr) (nd : Addr → Option Addr) (R : Hp) : List MT → List V → Prop
  | nil : IPL K C nd R [] []
  | cons {m : MT} {v : V} {ms : List MT} {vs : List V} : IP K C nd R m v → IPL K C nd R ms vs → IPL K C nd R (m :: ms) (v :: vs)
inductive VPL (K : PySem.W.Frag) (C : Addr) (nd : Addr → Option Addr) (R : Hp) : List MT → List V → Prop
  | nil : VPL K C nd R [] []
  | cons {m : MT} {v : V} {ms : List MT} {vs : List V} : VP K C nd R m v → VPL K C nd R ms vs → VPL K C nd R (m :: ms) (v :: vs)
theorem IPL.up {R R' : Hp} (s : Same R R') : ∀ {ms : List MT} {vs : List V}, IPL K C nd R ms vs → (∀ d ∈ mdsL ms, nd' d = nd d) → IPL K C nd' R' ms vs
  | _, _, .nil, _ => .nil
  | _, _, .cons h hs, e => by
    rw [mdsL_cons] at e
    exact .cons (h.up s fun d hd => e d (List.mem_append_left _ hd)) (hs.up s fun d hd => e d (List.mem_append_right _ hd))
theorem VPL.up {R R' : Hp} (s : Same R R') : ∀ {ms : List MT} {vs : List V}, VPL K C nd R ms vs → (∀ d ∈ mdsL ms, nd' d = nd d) → VPL K C nd' R' ms vs
  | _, _, .nil, _ => .nil
  | _, _, .cons h hs, e => by
    rw [mdsL_cons] at e
    exact .cons (h.up s fun d hd => e d (List.mem_append_left _ hd)) (hs.up s fun d hd => e d (List.mem_append_right _ hd))
theorem IPL.snoc {R : Hp} {m : MT} {v : V} (x : IP K C nd R m v) : ∀ {ms : List MT} {vs : List V}, IPL K C nd R ms vs → IPL K C nd R (ms ++ [m]) (vs ++ [v])
  | _, _, .nil => .cons x .nil
  | _, _, .cons h hs => .cons h (hs.snoc x)
theorem VPL.snoc {R : Hp} {m : MT} {v : V} (x : VP K C nd R m v) : ∀ {ms : List MT} {vs : List V}, VPL K C nd R ms vs → VPL K C nd R (ms ++ [m]) (vs ++ [v])
  | _, _, .nil => .cons x .nil
  | _, _, .cons h hs => .cons h (hs.snoc x)
theorem IPL.len {R : Hp} : ∀ {ms : List MT} {vs : List V}, IPL K C nd R ms vs → vs.length = ms.length
  | _, _, .nil => rfl
  | _, _, .cons _ hs => congrArg (· + 1) hs.len
theorem VPL.len {R : Hp} : ∀ {ms : List MT} {vs : List V}, VPL K C nd R ms vs → vs.length = ms.length
  | _, _, .nil => rfl
  | _, _, .cons _ hs => congrArg (· + 1) hs.len
theorem IPL.all {R : Hp} : ∀ {ms : List MT} {vs : List V}, IPL K C nd R ms vs → ∀ v ∈ vs, Itm K C R v
  | _, _, .cons h hs, v, hv => by
    rcases List.mem_cons.mp hv with rfl | hv
    · exact h.it
    · exact hs.all v hv
theorem VPL.all {R : Hp} : ∀ {ms : List MT} {vs : List V}, VPL K C nd R ms vs → ∀ v ∈ vs, Vlu K C R v
  | _, _, .cons h hs, v, hv => by
    rcases List.mem_cons.mp hv with rfl | hv
    · exact h.vl
    · exact hs.all v hv
theorem all2_app {Q : MT → List MT → Prop} : ∀ {a b ls : List MT}, All2 Q (a ++ b) ls → ∃ l1 l2, ls = l1 ++ l2 ∧ All2 Q a l1 ∧ All2 Q b l2
  | [], b, ls, h => ⟨[], ls, rfl, .nil, h⟩
  | x :: a, b, ls, h => by
    cases h with
    | cons h1 h2 =>
      obtain ⟨l1, l2, rfl, k1, k2⟩ := all2_app h2
      exact ⟨_ ++ l1, l2, by rw [List.append_assoc], .cons h1 k1, k2⟩
theorem IPL.tr {R : Hp} : ∀ {ms : List MT} {vs : List V}, IPL K C nd R ms vs → ∃ nl, TrL K C R (vs.filterMap (nodeOf C R)) nl ∧ ∀ n ls, All2 (MsN n) (ms.filterMap MT.dict?) ls → ls.map (fun x => nd x.adr) = nl.map some
  | _, _, .nil => ⟨[], .nil, fun n ls h => by cases h; rfl⟩
  | m :: ms, v :: vs, .cons h hs => by
    obtain ⟨l1, t1, f1⟩ := h.tr
    obtain ⟨l2, t2, f2⟩ := hs.tr
    have e1 : (v :: vs).filterMap (nodeOf C R) = (nodeOf C R v).toList ++ vs.filterMap (nodeOf C R) := by
      rw [List.filterMap_cons]
      cases nodeOf C R v <;> rfl
    have e2 : (m :: ms).filterMap MT.dict? = m.dict?.toList ++ ms.filterMap MT.dict? := by
      rw [List.filterMap_cons]
      cases m.dict? <;> rfl
    refine ⟨l1 ++ l2, by rw [e1]; exact t1.app t2, fun n ls h => ?_⟩
    rw [e2] at h
    obtain ⟨a, b, rfl, k1, k2⟩ := all2_app h
    rw [List.map_append, List.map_append, f1 n a k1, f2 n b k2]
theorem VPL.tr {R : Hp} : ∀ {ms : List MT} {vs : List V}, VPL K C nd R ms vs → ∃ nl, TrL K C R (kidsL C R vs) nl ∧ ∀ n ls, All2 (MsN n) (belowM ms) ls → ls.map (fun x => nd x.adr) = nl.map some
  | _, _, .nil => ⟨[], .nil, fun n ls h => by cases h; rfl⟩
  | m :: ms, v :: vs, .cons h hs => by
    obtain ⟨l1, t1, f1⟩ := h.tr
    obtain ⟨l2, t2, f2⟩ := hs.tr
    refine ⟨l1 ++ l2, t1.app t2, fun n ls h => ?_⟩
    obtain ⟨a, b, rfl, k1, k2⟩ := all2_app (show All2 (MsN n) (below1 m ++ belowM ms) ls from h)
    rw [List.map_append, List.map_append, f1 n a k1, f2 n b k2]
end
/-! ### the promises -/
def spMp (K : PySem.W.Frag) (C : Addr) (Cs : Nat → Addr) (n : Nat) : Sp := fun vs H Q _ => ∃ (nd : Addr → Option Addr) (Dd : Addr → Prop) (m : MT), vs = [m.val] ∧ MAt Cs nd H m ∧ m.hgt < n ∧ m.mds.Nodup ∧ (∀ d ∈ m.mds, Dd d) ∧ DdOk Dd H ∧
  ∀ (H' : Hp) (v : V) (nd' : Addr → Option Addr), Mv m.mds nd nd' H H' → IP K C nd' (res Dd H') m v → VP K C nd' (res Dd H') m v → So C nd' H (res Dd H') m v → Frs C nd' (res Dd H') H m v → Q v H'
def spNd (K : PySem.W.Frag) (C : Addr) (Cs : Nat → Addr) (n : Nat) : Sp := fun vs H Q _ => ∃ (nd : Addr → Option Addr) (Dd : Addr → Prop) (m : MT), vs = [m.val] ∧ MAt Cs nd H m ∧ isMd m = true ∧ m.hgt ≤ n ∧ m.mds.Nodup ∧ (∀ d ∈ m.mds, Dd d) ∧ DdOk Dd H ∧
  ∀ (H' : Hp) (v : V) (nd' : Addr → Option Addr), Mv m.mds nd nd' H H' → IP K C nd' (res Dd H') m v → VP K C nd' (res Dd H') m v → So C nd' H (res Dd H') m v → Frs C nd' (res Dd H') H m v → Q v H'
end M4

namespace M4
open PySem PySem.Spec PyProof.Rows L2 StX TL
/-! ### the value of a part -/
def iSeq (K : PySem.W.Frag) (tl : TE) : TI := fun σ H R => tl σ H fun x H1 => ∃ a, x = .ref a ∧ (((∃ xs, SqL K H1 a xs) ∧ R (Itl K a) H1) ∨ ((∃ xs, SqT K H1 a xs) ∧ R (Itt K a) H1))
theorem pi_seq {X : Cx} {tg l : Expr} {tl : TE} (hl : PE X l tl) : PI X tg l (iSeq X.K tl) := by
  refine ⟨fun pins s σ H R I h => ?_⟩
  refine thn (hl.run pins s σ H _ I h) fun v s1 ⟨x, H1, I1, r1, q1⟩ => ?_
  obtain ⟨a, e, q⟩ := q1
  subst e
  cases r1
  rcases q with ⟨⟨xs, hq⟩, q⟩ | ⟨⟨xs, hq⟩, q⟩
  · obtain ⟨its, rv, p, hz⟩ := I1.list hq
    refine wpAny_pyIter_list p.isList ?_
    refine ⟨s1.heap.objs.size, [s1.heap.objs.size], _, _, H1, rfl, I1.kept (t' := s1.toks) fun b o e => Heap.get?_push_of_some _ e, turn_list a _, ⟨_, Heap.get?_push_size _ rfl, rfl, rfl⟩, fun b hb => ?_, q⟩
    have e : b = s1.heap.objs.size := by simpa using hb
    subst e
    exact I1.fpOk (Nat.le_refl _) (I1.hok.fresh (Nat.le_refl _))
  · obtain ⟨its, rv, p, hz⟩ := I1.tuple hq
    refine wpAny_pyIter_tuple (show s1.heap.IsTuple a its.toArray from p) ?_
    refine ⟨s1.heap.objs.size, [s1.heap.objs.size], _, _, H1, rfl, I1.kept (t' := s1.toks) fun b o e => Heap.get?_push_of_some _ e, turn_tuple a _, ⟨_, Heap.get?_push_size _ rfl, rfl, rfl⟩, fun b hb => ?_, q⟩
    have e : b = s1.heap.objs.size := by simpa using hb
    subst e
    exact I1.fpOk (Nat.le_refl _) (I1.hok.fresh (Nat.le_refl _))
abbrev sMp : Stmt := topS 34
theorem scMp : FnScope ["_law_part_here", "_law_found", "_law_one"] ["_law_part_here"] (defScope sMp) := ⟨rfl, rfl, rfl, by decide +kernel, rfl, by decide +kernel, by decide +kernel⟩
def isTu : MT → Bool
  | .tu _ _ => true
  | _ => false
theorem MAt.tyT {K : PySem.W.Frag} {C : Addr} {Cs : Nat → Addr} {nd : Addr → Option Addr} {H : Hp} {m : MT} (W : ValI K C Cs) (h : MAt Cs nd H m) : ∃ t, TyX K H m.val t ∧ PySem.W.kitOne K t (.type "list") = some (isLs m) ∧ PySem.W.kitOne K t (.type "dict") = some (isMd m) ∧ PySem.W.kitAny K t [.type "list", .type "tuple"] = some (isLs m || isTu m) := by
  have any : ∀ (t : Value) (a b : Bool), PySem.W.kitOne K t (.type "list") = some a → PySem.W.kitOne K t (.type "tuple") = some b → PySem.W.kitAny K t [.type "list", .type "tuple"] = some (a || b) := fun t a b h1 h2 => by
    refine kitAny_cons h1 (fun h => kitAny_cons h2 (fun h' => ?_) fun h' => by rw [h, h']; rfl) fun h => by rw [h]; rfl
    rw [h, h']
    rfl
  cases h with
  | md h1 _ _ _ _ _ _ _ =>
    have k1 : PySem.W.kitOne K (.type "dict") (.type "list") = some false := kit_ty (by decide +kernel)
    exact ⟨_, .base (.dK h1), k1, kit_ty (by show _ = some true; decide +kernel), any _ _ _ k1 (kit_ty (by show _ = some false; decide +kernel))⟩
  | at_ h =>
    obtain ⟨t, h1, _, h3⟩ := h.ty W
    exact ⟨t, h1, h3 _ (by simp [seqTs]), h3 _ (by simp [seqTs]), any _ _ _ (h3 _ (by simp [seqTs])) (h3 _ (by simp [seqTs]))⟩
  | ls h _ _ =>
    have k1 : PySem.W.kitOne K (.type "list") (.type "list") = some true := kit_ty (by decide +kernel)
    exact ⟨_, .base (.lst h), k1, kit_ty (by show _ = some false; decide +kernel), any _ _ _ k1 (kit_ty (by show _ = some false; decide +kernel))⟩
  | tu h _ _ =>
    have k1 : PySem.W.kitOne K (.type "tuple") (.type "list") = some false := kit_ty (by decide +kernel)
    exact ⟨_, .base (.tup h), k1, kit_ty (by show _ = some false; decide +kernel), any _ _ _ k1 (kit_ty (by show _ = some true; decide +kernel))⟩
section
variable {K : PySem.W.Frag} {C : Addr} {Cs : Nat → Addr} {nd nd' : Addr → Option Addr} {H H' H1 H3 H4 : Hp}
/-- what is no list, no node -/
theorem ip_plain {R : Hp} {m : MT} {v : V} {t : Value} (tk : Trk R v) (ty : TyX K R v t) (kn : PySem.W.kitOne K t (.ref C) = some false) (kl : PySem.W.kitOne K t (.type "list") = some false) (nn : nodeOf C R v = none) (nl : isL R v = false) (hd : m.dict? = none) (hb : below1 m = []) : IP K C nd R m v ∧ VP K C nd R m v := by
  have it : Itm K C R v := ⟨tk, t, ty, by rw [nn]; exact kn⟩
  refine ⟨⟨it, [], by rw [nn]; exact .nil, fun n ls h => ?_⟩, ⟨.inr ⟨it, nl, t, ty, kl⟩, [], by rw [kidsV_one nl, nn]; exact .nil, fun n ls h => ?_⟩⟩
  · rw [hd] at h
    cases h; rfl
  · rw [hb] at h
    cases h; rfl
theorem ip_cst {R : Hp} {v : V} (W : ValI K C Cs) (h : Cst Cs R v) : IP K C nd R (.at_ v) v ∧ VP K C nd R (.at_ v) v := by
  obtain ⟨t, h1, h2, h3⟩ := h.ty W
  have hl := h3 (.type "list") (by simp [seqTs])
  cases h with
  | non => exact ip_plain (fun a e => by cases e) h1 h2 hl rfl rfl rfl rfl
  | bl b => exact ip_plain (fun a e => by cases e) h1 h2 hl rfl rfl rfl rfl
  | int i => exact ip_plain (fun a e => by cases e) h1 h2 hl rfl rfl rfl rfl
  | str x => exact ip_plain (fun a e => by cases e) h1 h2 hl rfl rfl rfl rfl
  | @obj p dx j fs hj hp hf =>
    refine ip_plain (fun a e => by cases e; rw [hp]; simp) h1 h2 hl ?_ ?_ rfl rfl
    · show nodeO C p (R p) = none
      rw [hp]
      show (if Cs j = C then some p else none) = none
      rw [if_neg (W.ne j hj)]
    · show isLO (R p) = false
      rw [hp]
      rfl
theorem ip_list {R : Hp} {a D : Addr} {ms : List MT} {xs : List V} (W : ValI K C Cs) (hD : R D = some (.lst xs)) (hl : xs.length ≤ 1000) (h : IPL K C nd R ms xs) : IP K C nd R (.ls a ms) (.ref D) ∧ VP K C nd R (.ls a ms) (.ref D) := by
  have nn : nodeOf C R (.ref D) = none := by
    show nodeO C D (R D) = none
    rw [hD]; rfl
  obtain ⟨nl, t, f⟩ := h.tr
  refine ⟨⟨⟨fun b e => by cases e; rw [hD]; simp, _, .base (.lst hD), by rw [nn]; exact W.nt _ (by simp)⟩, [], by rw [nn]; exact .nil, fun n ls h => ?_⟩, ⟨.inl ⟨D, xs, rfl, hD, hl, h.all⟩, nl, by rw [kidsV_lst hD]; exact t, f⟩⟩
  cases h; rfl
theorem ip_tup {R : Hp} {a D : Addr} {ms : List MT} {xs : List V} (W : ValI K C Cs) (hD : R D = some (.tup xs)) : IP K C nd R (.tu a ms) (.ref D) ∧ VP K C nd R (.tu a ms) (.ref D) := by
  refine ip_plain (fun b e => by cases e; rw [hD]; simp) (.base (.tup hD)) (W.nt _ (by simp)) (kit_ty (by decide +kernel)) ?_ ?_ rfl rfl
  · show nodeO C D (R D) = none
    rw [hD]; rfl
  · show isLO (R D) = false
    rw [hD]; rfl
theorem cst_res {Dd : Addr → Prop} {v : V} (h : Cst Cs H v) (o : DdOk Dd H) : Cst Cs (res Dd H) v := h.map fun b u i e => res_in (fun z => by
  obtain ⟨u', e', n⟩ := o b z
  rw [e] at e'
  rw [← Option.some.inj e', i] at n
  cases n) e
/-- the items made so far stand in the list at D -/
structure Mng (K : PySem.W.Frag) (C : Addr) (Dd : Addr → Prop) (nd : Addr → Option Addr) (H1 : Hp) (D : Addr) (ms : List MT) (H3 : Hp) (nd3 : Addr → Option Addr) (xs : List V) : Prop where
  mv : Mv (mdsL ms) nd nd3 H1 H3
  at_ : H3 D = some (.lst xs)
  it : IPL K C nd3 (res (fun b => Dd b ∨ b = D) H3) ms xs
  dd : DdOk (fun b => Dd b ∨ b = D) H3
  so : SoL C nd3 H1 (res (fun b => Dd b ∨ b = D) H3) ms xs
  ow : FrsL C nd3 (res (fun b => Dd b ∨ b = D) H3) H1 ms xs
theorem Mng.start {Dd : Addr → Prop} {D : Addr} (n : H1 D = none) (o : DdOk Dd H1) : Mng K C Dd nd H1 D [] (upd H1 D (.lst [])) nd [] := by
  refine ⟨by rw [mdsL_nil]; exact .same (same_new n), upd_same, .nil, fun b hb => ?_, .nil, .nil⟩
  rcases hb with hb | rfl
  · exact (o.same (same_new n)) b hb
  · exact was_of upd_same
theorem Mng.step {Dd : Addr → Prop} {D : Addr} {ms : List MT} {nd3 nd4 : Addr → Option Addr} {xs : List V} {m : MT} {v : V} (n : H1 D = none) (A : Mng K C Dd nd H1 D ms H3 nd3 xs) (B : Mv m.mds nd3 nd4 H3 H4) (hm : ∀ d ∈ m.mds, Dd d) (hdk : ∀ d ∈ m.mds, ∃ kvs, H1 d = some (.dK kvs)) (hdm : ∀ d ∈ mdsL ms, ∃ kvs, H1 d = some (.dK kvs)) (dj : ∀ d ∈ mdsL ms, d ∉ m.mds)
    (it : IP K C nd4 (res (fun b => Dd b ∨ b = D) H4) m v) (so : So C nd4 H1 (res (fun b => Dd b ∨ b = D) H4) m v) (fr : Frs C nd4 (res (fun b => Dd b ∨ b = D) H4) H3 m v) : H4 D = some (.lst xs) ∧ Mng K C Dd nd H1 D (ms ++ [m]) (upd H4 D (.lst (xs ++ [v]))) nd4 (xs ++ [v]) := by
  have nm : D ∉ m.mds := fun z => by
    obtain ⟨kvs, e⟩ := hdk D z
    rw [n] at e; cases e
  have nms : D ∉ mdsL ms := fun z => by
    obtain ⟨kvs, e⟩ := hdm D z
    rw [n] at e; cases e
  have hD4 := B.kp D _ nm A.at_
  have s1 : Same (res (fun b => Dd b ∨ b = D) H3) (res (fun b => Dd b ∨ b = D) H4) := B.res fun d hd => .inl (hm d hd)
  have s2 : Same (res (fun b => Dd b ∨ b = D) H4) (res (fun b => Dd b ∨ b = D) (upd H4 D (.lst (xs ++ [v])))) := res_up fun b o nb e => ⟨nb, by rw [upd_ne fun z => nb (.inr z)]; exact e⟩
  have em : mdsL (ms ++ [m]) = mdsL ms ++ m.mds := by rw [mdsL_app, mdsL_cons, mdsL_nil, List.append_nil]
  refine ⟨hD4, ⟨by rw [em]; exact (A.mv.trans B).upd_ n fun z => (List.mem_append.mp z).elim nms nm, upd_same, ?_, fun b hb => ?_, (A.so.up (s1.trans s2) fun d hd => B.out d (dj d hd)).snoc (so.up s2 fun _ _ => rfl), ?_⟩⟩
  · exact (A.it.up (s1.trans s2) fun d hd => B.out d (dj d hd)).snoc (it.up s2 fun _ _ => rfl)
  · by_cases z : b = D
    · rw [z]; exact was_of upd_same
    · obtain ⟨o, e, ni⟩ := (A.dd.mv B) b hb
      exact ⟨o, by rw [upd_ne z]; exact e, ni⟩
  · -- what is its own stood already, or is new
    obtain ⟨L, o1, o2, o3⟩ := A.ow
    have o4 := o1.has
    refine FrsL.snoc (H3 := H3) ⟨L, (o1.up (s1.trans s2) fun d hd => B.out d (dj d hd)), o2, o3⟩ (fun {A'} w1 w2 a ha => ?_) (fun a ha => A.mv.none_ ha) (fr.up s2 fun _ _ => rfl)
    have e : A' = L := w1.same_ (o1.up (s1.trans s2) fun d hd => B.out d (dj d hd))
    obtain ⟨o, g, _⟩ := o4 a (e ▸ ha)
    rw [(res_at g).2]
    exact fun z => by cases z
theorem hgtL_at {ms : List MT} {i : Nat} {m : MT} (h : ms[i]? = some m) : m.hgt ≤ hgtL ms := hgtL_mem (List.mem_of_getElem? h)
theorem mdsL_take : ∀ {ms : List MT} (i : Nat), List.Sublist (mdsL (ms.take i)) (mdsL ms)
  | [], i => by rw [List.take_nil]; exact List.Sublist.refl _
  | m :: r, 0 => by rw [List.take_zero, mdsL_nil]; exact List.nil_sublist _
  | m :: r, i + 1 => by rw [List.take_succ_cons, mdsL_cons, mdsL_cons]; exact List.Sublist.append (List.Sublist.refl _) (mdsL_take i)
theorem take_snoc {ms : List MT} {i : Nat} {m : MT} (h : ms[i]? = some m) : ms.take (i + 1) = ms.take i ++ [m] := by rw [List.take_succ, h]; rfl
theorem mds_split {ms : List MT} {i : Nat} {m : MT} (h : ms[i]? = some m) (n : (mdsL ms).Nodup) : m.mds.Nodup ∧ (∀ d ∈ mdsL (ms.take i), d ∉ m.mds) ∧ (∀ d ∈ m.mds, d ∈ mdsL ms) ∧ ∀ d ∈ mdsL (ms.take i), d ∈ mdsL ms := by
  have e : ms = ms.take i ++ m :: ms.drop (i + 1) := by
    have hi : i < ms.length := by
      rcases Nat.lt_or_ge i ms.length with z | z
      · exact z
      · rw [List.getElem?_eq_none z] at h; cases h
    rw [List.getElem?_eq_getElem hi] at h
    cases h
    rw [← List.drop_eq_getElem_cons hi, List.take_append_drop]
  have em : mdsL ms = mdsL (ms.take i) ++ (m.mds ++ mdsL (ms.drop (i + 1))) := by
    conv => lhs; rw [e]
    rw [mdsL_app, mdsL_cons]
  rw [em] at n ⊢
  rw [List.nodup_append] at n
  obtain ⟨n1, n2, n3⟩ := n
  rw [List.nodup_append] at n2
  exact ⟨n2.1, fun d h1 h2 => n3 d h1 d (List.mem_append_left _ h2) rfl, fun d hd => List.mem_append_right _ (List.mem_append_left _ hd), fun d hd => List.mem_append_left _ hd⟩
end
end M4

namespace M4
open PySem PySem.Spec PyProof.Rows L2 StX TL
theorem no_mp {P : Program} {w : World} {K : PySem.W.Frag} {mg : Str → Option Value} {base : Heap} {C : Addr} {Cs : Nat → Addr} {f : Addr} {fd : FuncData} {k : Nat} {ps : List Str} : FnOk P w K mg base CX0 k f fd ps (spMp K C Cs 0) := by
  have no : ∀ vs H Q E, ¬ spMp K C Cs 0 vs H Q E := fun vs H Q E h => by
    obtain ⟨nd, Dd, m, _, _, h1, _⟩ := h
    omega
  exact ⟨fun vs H Q E h => absurd h (no vs H Q E), fun A outer s H args us vs Q E _ _ _ _ h => absurd h (no vs H Q E)⟩
section
variable {P : Program} {w : World} {K : PySem.W.Frag} {mg : Str → Option Value} {base : Heap} {C : Addr} {Cs : Nat → Addr}
theorem ok_mp {f fN : Addr} {fd dN : FuncData} (F : Fun K "_law_made_part" "_law_made_part" sMp f fd) (bF : Binds K fd ["_law_part_here"] []) (mF : mg "_law_made_part" = some (.ref f)) (Z : Blt mg) (zD : mg "dict" = none) (W : ValI K C Cs) {n k : Nat} (ih : FnOk P w K mg base CX0 k f fd ["_law_part_here"] (spMp K C Cs n))
    (NO : FnOk P w K mg base CX0 k fN dN ["_law_model_here"] (spNd K C Cs n)) (bN : Binds K dN ["_law_model_here"] []) (kN : PySem.W.keepIn K (.ref fN) = true) (mN : mg "_law_node" = some (.ref fN)) : FnOk P w K mg base CX0 (k + 1) f fd ["_law_part_here"] (spMp K C Cs (n + 1)) := by
  refine F.ok scMp (fun vs H Q E h => ?_) (fun cdv A outer s H vs Q E hr h => ?_)
  · obtain ⟨nd, Dd, m, rfl, _⟩ := h
    rfl
  obtain ⟨nd, Dd, m, rfl, hm, hh, hnd, hsub, hdd, q⟩ := h
  refine ⟨_, (C8.pss_cut (ps_if (pt_val (pe_callB call_isi (by rfl) Z.isI (by decide +kernel) (pa_cons (pv 0) (pa_cons (pe_bltn (v := .ty "dict") (by rfl) zD (by decide +kernel) rfl) pa_nil)))) (pss_one (ps_ret (pe_call NO hr rfl mN kN bN .nil pass0 (pa_cons (pv 0) pa_nil)))) pss_nil)
    (C8.pss_cut (ps_if (pt_val (pe_callB call_isiT (by rfl) Z.isI (by decide +kernel) (pa_cons (pv 0) (pa_cons (pe_tup (pa_cons (pe_bltn (v := .ty "list") (by rfl) Z.ls (by decide +kernel) rfl) (pa_cons (pe_bltn (v := .ty "tuple") (by rfl) Z.tp (by decide +kernel) rfl) pa_nil))) pa_nil))))
        (C8.pss_cut (ps_setLc (i := 1) (own := [("_law_one", 2)]) (g := gName 2) (tt := tYes) rfl scMp.nd rfl rfl (sw_true rfl rfl rfl (by decide +kernel)) (pi_seq (pv 0)) (blkOk_by (own := [("_law_one", 2)]) (N := ["_law_part_here", "_law_found", "_law_one"]) (sc := (defScope sMp)) (by decide +kernel)) (fun _ _ _ _ _ => (pg_name (i := 2) scMp.nd rfl (.inl rfl))) (fun _ _ _ _ _ => pts_nil) (fun _ _ _ _ _ => (pe_call ih hr rfl mF F.kp bF .nil pass0 (pa_cons (pv 2) pa_nil))))
        (pss_one (ps_ret (pe_ifExp (pt_val (pe_callB call_isi (by rfl) Z.isI (by decide +kernel) (pa_cons (pv 0) (pa_cons (pe_bltn (v := .ty "list") (by rfl) Z.ls (by decide +kernel) rfl) pa_nil)))) (pv 1) (pe_callTy call_tuple_of (by rfl) Z.tp (by decide +kernel) (pa_cons (pv 1) pa_nil)))))) pss_nil)
    (pss_one (ps_ret (pv 0))))), ?_⟩
  obtain ⟨ty, h1, h2, h3, h4⟩ := hm.tyT W
  have zS : (1000 : Nat) ≤ sizeLine := by decide
  refine ⟨fun σ H2 => σ = [some m.val, none, none] ∧ H2 = H ∧ isMd m = false, ?_, ?_⟩
  · refine ⟨_, rfl, m.val, .ty "dict", _, _, _, rfl, .ty _, h1, h3, _, rfl, ?_⟩
    cases hd : isMd m with
    | false => exact iteF ⟨rfl, rfl, rfl⟩
    | true =>
      refine iteT ?_
      exact ⟨_, rfl, nd, Dd, m, rfl, hm, hd, by omega, hnd, hsub, hdd, q⟩
  rintro σ H2 ⟨rfl, rfl, hd⟩
  refine ⟨fun σ H3 => σ = [some m.val, none, none] ∧ Same H2 H3 ∧ isLs m = false ∧ isTu m = false, ?_, ?_⟩
  · refine ⟨_, rfl, by show 2 ≤ sizeLine; decide, fun tp ntp => ?_⟩
    have s1 := same_new (o := .tup [.ty "list", .ty "tuple"]) ntp
    refine ⟨m.val, tp, _, _, _, _, rfl, upd_same, .cons (.ty _) (.cons (.ty _) .nil), tyX_up h1 s1, h4, _, rfl, ?_⟩
    generalize upd H2 tp (.tup [.ty "list", .ty "tuple"]) = H1 at s1
    have hm1 := hm.up s1
    have hdd1 := hdd.same s1
    -- the items
    have items : ∀ (ps : List MT), MAtL Cs nd H1 ps → hgtL ps < n + 1 → hgtL ps + 1 ≤ n → (mdsL ps).Nodup → (∀ d ∈ mdsL ps, Dd d) → ∀ (D : Addr) (_ : H1 D = none) (i : Nat) (x : V) (H3 : Hp), (ps.map MT.val)[i]? = some x → (∃ nd3 xs, Mng K C Dd nd H1 D (ps.take i) H3 nd3 xs) → ps.length ≤ 100 →
        ∀ (R : V → Hp → Prop), (∀ (H4 : Hp) (v : V), (∃ acc, H4 D = some (.lst acc) ∧ acc.length < sizeLine ∧ ∃ nd3 xs, Mng K C Dd nd H1 D (ps.take (i + 1)) (upd H4 D (.lst (acc ++ [v]))) nd3 xs) → R v H4) → ∃ E, spMp K C Cs n [x] H3 R E := by
      intro ps hps l1 l2 pnd psub D nD i x H3 hx ⟨nd3, xs, A⟩ pl R hR
      rw [List.getElem?_map] at hx
      obtain ⟨mi, hmi, rfl⟩ := Option.map_eq_some_iff.mp hx
      obtain ⟨z1, z2, z3, z4⟩ := mds_split hmi pnd
      have hmiA := hps.mem mi (List.mem_of_getElem? hmi)
      have hdk : ∀ d ∈ mdsL ps, ∃ kvs, H1 d = some (.dK kvs) := hps.has
      have hh := hgtL_at hmi
      refine ⟨fun _ _ _ => False, nd3, fun b => Dd b ∨ b = D, mi, rfl, hmiA.mv A.mv fun d hd => hdk d (z4 d hd), by omega, z1, fun d hd => .inl (psub d (z3 d hd)), A.dd, fun H4 v nd4 B it vp so fr => hR H4 v ?_⟩
      have so := So.at_heap (fun a xs e => A.mv.kept (fun d hd => hdk d ((mdsL_take i).subset hd)) e fun _ z => by cases z) so hmiA
      obtain ⟨hD4, A'⟩ := A.step nD B (fun d hd => psub d (z3 d hd)) (fun d hd => hdk d (z3 d hd)) (fun d hd => hdk d (z4 d hd)) z2 it so fr
      rw [← take_snoc hmi] at A'
      have ln := A.it.len
      rw [List.length_take] at ln
      exact ⟨xs, hD4, by omega, nd4, _, A'⟩
    cases m with
    | md d pl sp k ps => cases hd
    | at_ v => exact iteF ⟨rfl, s1, rfl, rfl⟩
    | ls a ps =>
      refine iteT ?_
      rw [hgt_ls] at hh
      rw [mds_ls] at hnd hsub q
      cases hm1 with
      | ls ha hl hps =>
      have it := items ps hps (by omega) (by omega) hnd hsub
      refine ⟨fun σ H3 => ∃ D nd3 xs, σ = [some (.ref a), some (.ref D), none] ∧ Mng K C Dd nd H1 D ps H3 nd3 xs ∧ H1 D = none, ?_, ?_⟩
      · refine ⟨_, rfl, a, rfl, .inl ⟨⟨_, SqL.of ha⟩, fun D nD => ?_⟩⟩
        refine lc_list (K := K) (a := a) (xs := ps.map MT.val) (fun i H3 => ∃ nd3 xs, Mng K C Dd nd H1 D (ps.take i) H3 nd3 xs) ⟨nd, [], .start nD hdd1⟩ (fun i H3 _ ⟨_, _, A⟩ => SqL.of (A.mv.kept (fun d hd => hps.has d ((mdsL_take i).subset hd)) ha fun _ z => by cases z)) ?_ ?_
        · rintro i x H3 hx A
          refine ⟨rfl, ?_⟩
          unfold tYes
          refine iteT ?_
          refine ⟨_, rfl, ?_⟩
          obtain ⟨E', z⟩ := it D nD i x H3 hx A hl _ (fun H4 v h => h)
          exact z
        · rintro H3 ⟨nd3, xs, A⟩
          rw [List.length_map, List.take_length] at A
          exact ⟨D, nd3, xs, rfl, A, nD⟩
      · rintro σ H3 ⟨D, nd3, xs, rfl, A, nD⟩
        have ha3 := A.mv.kept (fun d hd => hps.has d hd) ha fun _ z => by cases z
        refine ⟨_, rfl, .ref a, .ty "list", _, _, _, rfl, .ty _, .base (.lst ha3), lst_in, _, rfl, iteT ?_⟩
        have ln := A.it.len
        have sR : Same (res (fun b => Dd b ∨ b = D) H3) (res Dd H3) := res_up fun b o n e => ⟨fun z => n (.inl z), e⟩
        obtain ⟨i1, v1⟩ := ip_list (a := a) W (res_in (hdd1.new nD) A.at_) (by omega) (A.it.up sR fun _ _ => rfl)
        have mv2 : Mv (mdsL ps) nd nd3 H2 H3 := by
          have z := (Mv.same (nd := nd) s1).trans A.mv
          rw [List.nil_append] at z
          exact z
        exact ⟨_, rfl, q H3 (.ref D) nd3 mv2 i1 v1 (So.at_heap (Cs := Cs) (fun _ _ e => s1 _ _ e) (.ls (res_in (hdd1.new nD) A.at_) (A.so.up sR fun _ _ => rfl)) hm) (by
          obtain ⟨L, o1, o2, o3⟩ := A.ow
          refine ⟨D :: L, .ls (res_in (hdd1.new nD) A.at_) (o1.up sR fun _ _ => rfl), List.nodup_cons.mpr ⟨fun z => ?_, o2⟩, fun b hb => ?_⟩
          · obtain ⟨o, g, _⟩ := o1.has D z
            exact (res_at g).1 (.inr rfl)
          · rcases List.mem_cons.mp hb with rfl | hb
            · exact s1.free nD
            · exact s1.free (o3 b hb))⟩
    | tu a ps =>
      refine iteT ?_
      rw [hgt_tu] at hh
      rw [mds_tu] at hnd hsub q
      cases hm1 with
      | tu ha hl hps =>
      have it := items ps hps (by omega) (by omega) hnd hsub
      refine ⟨fun σ H3 => ∃ D nd3 xs, σ = [some (.ref a), some (.ref D), none] ∧ Mng K C Dd nd H1 D ps H3 nd3 xs ∧ H1 D = none, ?_, ?_⟩
      · refine ⟨_, rfl, a, rfl, .inr ⟨⟨_, SqT.of ha⟩, fun D nD => ?_⟩⟩
        refine lc_tup (K := K) (a := a) (xs := ps.map MT.val) (fun i H3 => ∃ nd3 xs, Mng K C Dd nd H1 D (ps.take i) H3 nd3 xs) ⟨nd, [], .start nD hdd1⟩ (fun i H3 _ ⟨_, _, A⟩ => SqT.of (A.mv.kept (fun d hd => hps.has d ((mdsL_take i).subset hd)) ha fun _ z => by cases z)) ?_ ?_
        · rintro i x H3 hx A
          refine ⟨rfl, ?_⟩
          unfold tYes
          refine iteT ?_
          refine ⟨_, rfl, ?_⟩
          obtain ⟨E', z⟩ := it D nD i x H3 hx A hl _ (fun H4 v h => h)
          exact z
        · rintro H3 ⟨nd3, xs, A⟩
          rw [List.length_map, List.take_length] at A
          exact ⟨D, nd3, xs, rfl, A, nD⟩
      · rintro σ H3 ⟨D, nd3, xs, rfl, A, nD⟩
        have ha3 := A.mv.kept (fun d hd => hps.has d hd) ha fun _ z => by cases z
        refine ⟨_, rfl, .ref a, .ty "list", _, _, _, rfl, .ty _, .base (.tup ha3), kit_ty (by show _ = some false; decide +kernel), _, rfl, iteF ?_⟩
        have ln := A.it.len
        refine ⟨_, rfl, D, _, rfl, .inl ⟨SqL.of A.at_, fun t nt => ?_⟩⟩
        have st := same_new (o := .tup xs) nt
        have mv2 : Mv (mdsL ps) nd nd3 H2 (upd H3 t (.tup xs)) := by
          have z := ((Mv.same (nd := nd) s1).trans A.mv).trans (Mv.same st)
          rw [List.nil_append, List.append_nil] at z
          exact z
        have ndt : ¬ Dd t := fun z => not_was nt (A.dd t (.inl z))
        obtain ⟨i1, v1⟩ := ip_tup (K := K) (C := C) (nd := nd3) (a := a) (ms := ps) W (res_in (B := Dd) ndt (upd_same (H := H3) (a := t) (o := .tup xs)))
        have sR : Same (res (fun b => Dd b ∨ b = D) H3) (res Dd (upd H3 t (.tup xs))) := res_up fun b o n e => ⟨fun z => n (.inl z), st _ _ e⟩
        exact q _ (.ref t) nd3 mv2 i1 v1 (So.at_heap (Cs := Cs) (fun _ _ e => s1 _ _ e) (.tu (res_in (B := Dd) ndt (upd_same (H := H3) (a := t) (o := .tup xs))) (A.so.up sR fun _ _ => rfl)) hm) (by
          obtain ⟨L, o1, o2, o3⟩ := A.ow
          exact ⟨L, .tu (res_in (B := Dd) ndt (upd_same (H := H3) (a := t) (o := .tup xs))) (o1.up sR fun _ _ => rfl), o2, fun b hb => s1.free (o3 b hb)⟩)
  rintro σ H3 ⟨rfl, s3, hl, ht⟩
  cases m with
  | md d pl sp k ps => cases hd
  | ls a ps => cases hl
  | tu a ps => cases ht
  | at_ v =>
    cases hm with
    | at_ hc =>
    obtain ⟨i1, v1⟩ := ip_cst (nd := nd) W (cst_res (hc.up s3) (hdd.same s3))
    rw [mds_at] at q
    exact ⟨_, rfl, q H3 v nd (.same s3) i1 v1 .at_ ⟨[], .at_, List.nodup_nil, fun b hb => (by cases hb)⟩⟩
end
end M4

namespace M4
open PySem PySem.Spec PyProof.Rows L2 StX TL
/-! ### the node of a model -/
theorem fkv_set : ∀ {ns : List Str} {us : List V} {i : Nat} {nm : Str} {v : V}, ns.Nodup → us.length = ns.length → ns[i]? = some nm → putK (fkv ns us) (.inr nm) v = fkv ns (us.set i v)
  | [], us, i, nm, v, _, _, h => by simp at h
  | n :: ns, [], i, nm, v, _, h, _ => by cases h
  | n :: ns, u :: us, 0, nm, v, hn, hl, h => by
    cases h
    show putK ((Sum.inr n, u) :: fkv ns us) (Sum.inr n) v = (Sum.inr n, v) :: fkv ns us
    have n2 := List.nodup_cons.mp hn
    have e : (fkv ns us).map (fun kv => if kv.1 = (Sum.inr n : Key) then (kv.1, v) else kv) = fkv ns us := by
      rw [List.map_congr_left (g := id) fun p hp => ?_, List.map_id]
      obtain ⟨m, hm, e⟩ := zip_keys p hp
      have ne : ¬ p.1 = (Sum.inr n : Key) := fun z => n2.1 (by rw [e] at z; exact Sum.inr.inj z ▸ hm)
      rw [if_neg ne]
      rfl
    simp [putK, e]
  | n :: ns, u :: us, i + 1, nm, v, hn, hl, h => by
    have n2 := List.nodup_cons.mp hn
    have ne : n ≠ nm := fun z => n2.1 (z ▸ List.mem_of_getElem? (show ns[i]? = some nm from h))
    have ih := fkv_set (us := us) (i := i) (v := v) n2.2 (Nat.succ.inj hl) h
    show putK ((Sum.inr n, u) :: fkv ns us) (Sum.inr nm) v = (Sum.inr n, u) :: fkv ns (us.set i v)
    rw [← ih]
    have hne : ¬ (Sum.inr n : Key) = Sum.inr nm := fun z => ne (Sum.inr.inj z)
    unfold putK
    rw [List.any_cons, decide_eq_false hne, Bool.false_or, List.map_cons, if_neg hne]
    split <;> rfl
section
variable {P : Program} {w : World} {K : PySem.W.Frag} {mg : Str → Option Value} {base : Heap} {aF aA C : Addr} {eF : Array DictEntry} {nF : Nat}
/-- Node.__init__ with the four keywords in the order of the attributes -/
theorem ok_iniA {f fO fD : Addr} {fd dO dD : FuncData} (F : Fun K "__init__" "Node.__init__" sNI f fd) (T : Tabs K w mg aF aA eF nF) (Z : Blt mg) (N : NodeF K C)
    (O : FnOk P w K mg base CX0 1 fO dO ["kind"] spFO) (bO : Binds K dO ["kind"] []) (kO : PySem.W.keepIn K (.ref fO) = true) (mO : mg "fields_of" = some (.ref fO))
    (bD : Binds K dD ["name", "mark"] []) (kD : PySem.W.keepIn K (.ref fD) = true) (mD : mg "_default" = some (.ref fD)) {n k : Nat} (hk1 : 1 ≤ k) (D : FnOk P w K mg base CX0 k fD dD ["name", "mark"] (spDef n C)) :
    FnRK P w K mg base CX0 (k + 1) f attrs (spIniK n C attrs) := by
  obtain ⟨oc, od, kV, doc, pm, an, cdv, ct, osl, rfl, lk, hcd⟩ := F.ex
  refine fn_starkwK (ps := ["self", "kind"]) (pv := "parts") (pd := "more") lk hcd scNI (cxUp_none) (by decide +kernel) (by decide) (fun us rest ws hl hw => ?_) (fun A outer s H vs Q E hr h => ini_core T Z N O bO kO mO bD kD mD hk1 D A outer s H vs Q E hr h)
  match us, hl, ws, hw with
  | [a, b], _, [w1, w2, w3, w4], _ =>
    cases rest with
    | nil => rfl
    | cons r rs => rfl
end
abbrev sNd : Stmt := topS 35
theorem scNd : FnScope ["_law_model_here", "_law_kind", "_law_spot_here", "_law_made", "_law_fields_here", "_law_k"] ["_law_model_here"] (defScope sNd) := ⟨rfl, rfl, rfl, by decide +kernel, rfl, by decide +kernel, by decide +kernel⟩
theorem sameRow_at : ∀ {ps : List (List Str)} {rs : List (Str × Str × Str)}, sameRow ps rs = true → ∀ {i : Nat} {p : List Str}, ps[i]? = some p → ∃ nm hd r, p = [nm, hd] ∧ rs[i]? = some r ∧ r.1 = nm
  | [], _, _, i, p, h => by simp at h
  | [n, hd] :: ps, r :: rs, h, 0, p, e => by
    cases e
    obtain ⟨h1, _⟩ := Bool.and_eq_true_iff.mp h
    exact ⟨n, hd, r, rfl, rfl, (of_decide_eq_true h1).symm⟩
  | [n, hd] :: ps, r :: rs, h, i + 1, p, e => by
    obtain ⟨_, h2⟩ := Bool.and_eq_true_iff.mp h
    exact sameRow_at h2 (i := i) e
  | [_, _] :: _, [], h, _, _, _ => by cases h
  | [] :: _, _, h, _, _, _ => by cases h
  | [_] :: _, _, h, _, _, _ => by cases h
  | (_ :: _ :: _ :: _) :: _, _, h, _, _, _ => by cases h
theorem mdKv_inj {k k' : Str} {pl pl' sp sp' : Addr} {x : Option Addr} (h : mdKv k pl sp x = mdKv k' pl' sp' x) : k = k' ∧ pl = pl' ∧ sp = sp' := by
  unfold mdKv at h
  have h1 := (List.cons.inj h).1
  have h2 := (List.cons.inj (List.cons.inj h).2).1
  have h3 := (List.cons.inj (List.cons.inj (List.cons.inj h).2).2).1
  exact ⟨V.str.inj (Prod.mk.inj h1).2, V.ref.inj (Prod.mk.inj h2).2, V.ref.inj (Prod.mk.inj h3).2⟩
theorem mdKv_put {k : Str} {pl sp p : Addr} {x : Option Addr} : mergeK (mdKv k pl sp x) (mergeK [] [((.inr "node" : Key), V.ref p)]) = mdKv k pl sp (some p) := by
  cases x <;> rfl
section
variable {P : Program} {w : World} {K : PySem.W.Frag} {mg : Str → Option Value} {base : Heap} {C : Addr} {Cs : Nat → Addr}
theorem ok_nd {f fM fF fI fG fS : Addr} {fd dM dF dS : FuncData} (F : Fun K "_law_node" "_law_node" sNd f fd) (Z : Blt mg) (Ni : NodeI K C) (Nc : NodeC K C fG fS) (MK : Mk K C fI) (mN : mg "Node" = some (.ref C)) {n k : Nat} (hk : 5 ≤ k) (NI : FnRK P w K mg base CX0 5 fI attrs (spIniK 1 C attrs))
    (ST : FnOk P w K mg base CX0 1 fS dS ["self", "at", "worth"] (spSet C)) (bS : Binds K dS ["self", "at", "worth"] [])
    (FD : FnOk P w K mg base CX0 3 fF dF ["_law_kind"] spFd) (bF : Binds K dF ["_law_kind"] []) (kF : PySem.W.keepIn K (.ref fF) = true) (mF : mg "_law_fields" = some (.ref fF))
    (MP : FnOk P w K mg base CX0 k fM dM ["_law_part_here"] (spMp K C Cs n)) (bM : Binds K dM ["_law_part_here"] []) (kM : PySem.W.keepIn K (.ref fM) = true) (mM : mg "_law_made_part" = some (.ref fM)) : FnOk P w K mg base CX0 (k + 2) f fd ["_law_model_here"] (spNd K C Cs n) := by
  refine F.ok scNd (fun vs H Q E h => ?_) (fun cdv A outer s H vs Q E hr h => ?_)
  · obtain ⟨nd, Dd, m, rfl, _⟩ := h
    rfl
  obtain ⟨nd, Dd, m, rfl, hm, hmd, hh, hnd, hsub, hdd, q⟩ := h
  have hr1 := hr.mono (show 1 ≤ k + 1 by omega)
  have hr3 := hr.mono (show 3 ≤ k + 1 by omega)
  have hr6 := hr.mono (show 6 ≤ k + 1 by omega)
  have hrk := hr.mono (show k ≤ k + 1 by omega)
  refine ⟨_, (C8.pss_cut (ps_par (by rfl) scNd.nd (i := 1) (j := 2) rfl rfl (by decide) rfl rfl (pa_cons (pe_dget (hu_of hr) (pv 0) pe_str (fun _ _ => rfl)) (pa_cons (pe_dget (hu_of hr) (pv 0) pe_str (fun _ _ => rfl)) pa_nil)) (by rfl))
    (C8.pss_cut (ps_set (i := 3) scNd.nd rfl (.inl rfl) (pe_nodeK MK NI hr6 rfl mN (pa_cons (pv 1) pa_nil) (pk_cons (pe_ix ix_list (pv 2) pe_int (fun _ _ => rfl)) (pk_cons (pe_ix ix_list (pv 2) pe_int (fun _ _ => rfl)) (pk_cons (pe_ix ix_list (pv 2) pe_int (fun _ _ => rfl)) (pk_cons (pe_ix ix_list (pv 2) pe_int (fun _ _ => rfl)) pk_nil)))) (by decide +kernel) (by decide)))
    (C8.pss_cut (ps_set (i := 4) scNd.nd rfl (.inl rfl) (pe_call FD hr3 rfl mF kF bF .nil pass0 (pa_cons (pv 1) pa_nil)))
    (C8.pss_cut (ps_for PassesOwn.never rfl (pi_range1 (by rfl) Z.rg (pa_cons (pe_callB call_len_seq rfl Z.ln PySem.boot_len (pa_cons (pv 4) pa_nil)) pa_nil)) (pg_name (i := 5) scNd.nd rfl (.inl rfl)) (pss_one (ps_asg (pe_call MP hrk rfl mM kM bM .nil pass0 (pa_cons (pe_ix ix_list (pe_dget (hu_of hr) (pv 0) pe_str (fun _ _ => rfl)) (pv 5) (fun _ _ => rfl)) pa_nil)) (pg_sub (pv 3) (pe_ix ix_tup (pe_ix ix_list (pv 4) (pv 5) (fun _ _ => rfl)) pe_int (fun _ _ => rfl)) (set_node Nc ST bS hr1)))))
    (pss_cons (ps_expr (pe_bm PySem.F.plainAttrs_dict PySem.F.slot_dict_update PySem.F.type_dict_update mt_update (pv 0) (pa_cons (pe_disp (pps_cons pe_str (pv 3) pps_nil) (by rfl) (by rfl) (fun z => by cases z) (by decide)) pa_nil)))
    (pss_one (ps_ret (pv 3)))))))), ?_⟩
  cases m with
  | at_ v => cases hmd
  | ls a ps => cases hmd
  | tu a ps => cases hmd
  | md d pl sp kd ps =>
  have hm0 := hm
  cases hm with
  | @md _ _ _ _ _ sx h1 h2 h3 h4 h5 h6 h7 h8 =>
  rw [hgt_md] at hh
  rw [mds_md] at hnd hsub q
  obtain ⟨hnd1, hnd2⟩ := List.nodup_cons.mp hnd
  have zS : (1000 : Nat) ≤ sizeLine := by decide
  obtain ⟨rs, row⟩ := Option.isSome_iff_exists.mp h6
  obtain ⟨okr, same⟩ := fields_row row
  have rl := sameRow_len same
  have hs7 := rows_small row
  have hnn := rows_nodup row
  have nl : (namesOf rs).length = rs.length := by unfold namesOf; rw [List.length_map]
  have gK : ∀ x, DGet H d (.str "kind") x ↔ DGet H d (.str "kind") x := fun _ => Iff.rfl
  have gk : DGet H d (.str "kind") (some (.str kd)) := by
    have z := DGet.k (k := Sum.inr "kind") h1
    rw [show valV (mdKv kd pl sp (nd d)) (Sum.inr "kind") = some (V.str kd) from by unfold mdKv; cases nd d <;> rfl] at z
    exact z
  have gs : DGet H d (.str "spot") (some (.ref sp)) := by
    have z := DGet.k (k := Sum.inr "spot") h1
    rw [show valV (mdKv kd pl sp (nd d)) (Sum.inr "spot") = some (V.ref sp) from by unfold mdKv; cases nd d <;> rfl] at z
    exact z
  refine ⟨fun σ H1 => σ = [some (.ref d), some (.str kd), some (.ref sp), none, none, none] ∧ H1 = H, ?_, ?_⟩
  · exact ⟨_, rfl, d, _, rfl, gk, _, rfl, d, _, rfl, gs, _, _, rfl, rfl, rfl⟩
  rintro σ H1 ⟨rfl, rfl⟩
  obtain ⟨x0, x1, x2, x3, rfl⟩ : ∃ a b c e, sx = [a, b, c, e] := match sx, h4 with | [a, b, c, e], _ => ⟨a, b, c, e, rfl⟩
  refine ⟨fun σ H2 => ∃ p dn ds m, σ = [some (.ref d), some (.str kd), some (.ref sp), some (.ref p), none, none] ∧ (atV m "lineno" = x0 ∧ atV m "col_offset" = x1 ∧ atV m "end_lineno" = x2 ∧ atV m "end_col_offset" = x3) ∧ NewN C H1 H2 p kd m rs [] dn ds, ?_, ?_⟩
  · refine ⟨_, rfl, _, rfl, sp, _, _, _, rfl, rfl, SqL.of h3, rfl, _, rfl, sp, _, _, _, rfl, rfl, SqL.of h3, rfl, _, rfl, sp, _, _, _, rfl, rfl, SqL.of h3, rfl, _, rfl, sp, _, _, _, rfl, rfl, SqL.of h3, rfl, ?_⟩
    exact ⟨kd, rs, [], rfl, rfl, row, Nat.zero_le _, .inl rfl, fun H3 p dn ds N => ⟨p, dn, ds, _, rfl, ⟨rfl, rfl, rfl, rfl⟩, N⟩⟩
  rintro σ H2 ⟨p, dn, ds, m, rfl, ⟨ea0, ea1, ea2, ea3⟩, N⟩
  obtain ⟨dx, hp2⟩ := N.at_
  have hd2 := N.dk
  have nln := N.len
  rw [List.nil_append] at hd2 nln
  refine ⟨fun σ H3 => ∃ fl, σ = [some (.ref d), some (.str kd), some (.ref sp), some (.ref p), some (.ref fl), none] ∧ Same H2 H3 ∧ FdsAt H2 H3 fl (fieldsP kd), ?_, ?_⟩
  · exact ⟨_, rfl, kd, rfl, okr, fun H3 fl s3 fa => ⟨fl, rfl, s3, fa⟩⟩
  rintro σ H3 ⟨fl, rfl, s3, nfl, as, hfl, las, hat⟩
  have s13 := N.sm.trans s3
  have hp3 := s3 _ _ hp2
  have hd3 := s3 _ _ hd2
  have mdk : ∀ b ∈ mdsL ps, ∃ kvs, H1 b = some (.dK kvs) := h8.has
  -- what stands outside of the dict of the node and the dicts of the models
  have off : ∀ {H4 : Hp} {b : Addr} {o : HO}, KpX (dn :: mdsL ps) H3 H4 → H3 b = some o → (∀ kvs, o ≠ .dK kvs) → H4 b = some o := fun {H4 b o} k e no => by
    refine k b o (fun z => ?_) e
    rcases List.mem_cons.mp z with z | z
    · rw [z, hd3] at e
      exact no _ (Option.some.inj e).symm
    · obtain ⟨kvs, g⟩ := mdk b z
      rw [s13 _ _ g] at e
      exact no _ (Option.some.inj e).symm
  have ndn1 : H1 dn = none := N.nd
  have np1 : H1 p = none := N.np
  have dnm : dn ∉ mdsL ps := fun z => by
    obtain ⟨kvs, g⟩ := mdk dn z
    rw [ndn1] at g; cases g
  have ndd : ¬ Dd dn := hdd.new ndn1
  have ndp : ¬ Dd p := hdd.new np1
  refine ⟨fun σ H4 => ∃ (x5 : Option V) (nd3 : Addr → Option Addr) (vs : List V), σ = [some (.ref d), some (.str kd), some (.ref sp), some (.ref p), some (.ref fl), x5] ∧ Mv (mdsL ps) nd nd3 H1 H4 ∧ KpX (dn :: mdsL ps) H3 H4 ∧ H4 dn = some (.dK (fkv (namesOf rs) vs)) ∧ VPL K C nd3 (res (fun b => Dd b ∨ b = dn) H4) ps vs ∧ DdOk (fun b => Dd b ∨ b = dn) H4 ∧ SoL C nd3 H1 (res (fun b => Dd b ∨ b = dn) H4) ps vs ∧ FrsL C nd3 (res (fun b => Dd b ∨ b = dn) H4) H1 ps vs, ?_, ?_⟩
  · refine ⟨_, rfl, fl, _, rfl, .inl (SqL.of hfl), ?_⟩
    refine ⟨_, rfl, by rw [List.length_map]; omega, by rw [List.length_map]; omega, ?_⟩
    refine for_range (lo := 0) (n := ((as.map V.ref).length : Int).toNat) (fun i σ H4 => ∃ (x5 : Option V) (nd3 : Addr → Option Addr) (vs : List V), σ = [some (.ref d), some (.str kd), some (.ref sp), some (.ref p), some (.ref fl), x5] ∧ Mv (mdsL (ps.take i)) nd nd3 H1 H4 ∧ KpX (dn :: mdsL ps) H3 H4 ∧ H4 dn = some (.dK (fkv (namesOf rs) (vs ++ ds.drop i))) ∧ VPL K C nd3 (res (fun b => Dd b ∨ b = dn) H4) (ps.take i) vs ∧ DdOk (fun b => Dd b ∨ b = dn) H4 ∧ SoL C nd3 H1 (res (fun b => Dd b ∨ b = dn) H4) (ps.take i) vs ∧ FrsL C nd3 (res (fun b => Dd b ∨ b = dn) H4) H1 (ps.take i) vs)
      ⟨none, nd, [], rfl, by rw [List.take_zero, mdsL_nil]; exact .same s13, fun _ _ _ e => e, hd3, .nil, fun b hb => ?_, .nil, .nil⟩ ?_ ?_
    · rcases hb with hb | rfl
      · exact (hdd.same s13) b hb
      · exact was_of hd3
    · rintro i σ H4 hi ⟨x5, nd3, vs, rfl, mv, kx, hdn, vpl, dd, sol, own⟩
      have hi7 : i < as.length := by rw [List.length_map] at hi; omega
      have hip : i < ps.length := by omega
      obtain ⟨mi, hmi⟩ : ∃ mi, ps[i]? = some mi := ⟨_, List.getElem?_eq_getElem hip⟩
      obtain ⟨b, hb⟩ : ∃ b, as[i]? = some b := ⟨_, List.getElem?_eq_getElem hi7⟩
      obtain ⟨fp, hfp⟩ : ∃ fp, (fieldsP kd)[i]? = some fp := ⟨_, List.getElem?_eq_getElem (by omega)⟩
      obtain ⟨nb, hb3⟩ := hat i b fp hb hfp
      obtain ⟨nm, hd', r, rfl, hr', enm⟩ := sameRow_at same hfp
      obtain ⟨z1, z2, z3, z4⟩ := mds_split hmi hnd2
      have hmiA := h8.mem mi (List.mem_of_getElem? hmi)
      have lv := vpl.len
      rw [List.length_take] at lv
      have lvi : vs.length = i := by omega
      have hnm : (namesOf rs)[i]? = some nm := by
        unfold namesOf
        rw [List.getElem?_map, hr', ← enm]
        rfl
      -- the model's dict
      have hmv := hm0.mv mv fun b hb => mdk b (z4 b hb)
      cases hmv with
      | md g1 g2 _ _ _ _ _ _ =>
      have gp : DGet H4 d (.str "parts") (some (.ref pl)) := by
        have z := DGet.k (k := Sum.inr "parts") g1
        rw [show valV (mdKv kd pl sp (nd3 d)) (Sum.inr "parts") = some (V.ref pl) from by unfold mdKv; cases nd3 d <;> rfl] at z
        exact z
      have hm2 : (ps.map MT.val)[i]? = some mi.val := by rw [List.getElem?_map, hmi]; rfl
      refine ⟨_, rfl, d, _, rfl, gp, _, rfl, pl, _, _, _, rfl, rfl, SqL.of g2, (by rw [Int.zero_add]; exact atI_nat hm2), ?_⟩
      have hgi := hgtL_at hmi
      refine ⟨nd3, fun b => Dd b ∨ b = dn, mi, rfl, hmiA.mv mv fun b hb => mdk b (z4 b hb), by omega, z1, fun b hb => .inl (hsub b (List.mem_cons_of_mem _ (z3 b hb))), dd, fun H5 v nd4 B it vp so fr => ?_⟩
      have so := So.at_heap (fun a xs e => mv.kept (fun b hb => mdk b (z4 b hb)) e fun _ z => by cases z) so hmiA
      have dnmi : dn ∉ mi.mds := fun z => dnm (z3 dn z)
      have kx5 : KpX (dn :: mdsL ps) H3 H5 := kx.trans (B.kp.mono fun b hb => List.mem_cons_of_mem _ (z3 b hb))
      have hp5 := off kx5 hp3 fun _ z => by cases z
      have hfl5 := off kx5 hfl fun _ z => by cases z
      have hb5 := off kx5 hb3 fun _ z => by cases z
      have hdn5 := B.kp dn _ dnmi hdn
      have hbm : (as.map V.ref)[i]? = some (.ref b) := by rw [List.getElem?_map, hb]; rfl
      obtain ⟨u0, hu0⟩ : ∃ u0, (vs ++ ds.drop i)[i]? = some u0 := ⟨_, List.getElem?_eq_getElem (by rw [List.length_append, List.length_drop]; omega)⟩
      have lall : (vs ++ ds.drop i).length = (namesOf rs).length := by rw [List.length_append, List.length_drop]; omega
      refine ⟨_, rfl, _, rfl, _, rfl, fl, _, _, _, rfl, rfl, SqL.of hfl5, (by rw [Int.zero_add]; exact atI_nat hbm), b, _, _, _, rfl, rfl, SqT.of hb5, rfl, ?_⟩
      refine ⟨p, dx, dn, nm, _, _, u0, rfl, rfl, hp5, rfl, hdn5, valV_fkv hnn hnm hu0, ?_, ?_⟩
      · have := fkv_len (ns := namesOf rs) (vs := vs ++ ds.drop i) (by omega)
        omega
      rw [fkv_set hnn lall hnm]
      have eset : (vs ++ ds.drop i).set i v = (vs ++ [v]) ++ ds.drop (i + 1) := by
        have hid : i < ds.length := by omega
        rw [List.set_append_right _ _ (by omega), lvi, Nat.sub_self, List.drop_eq_getElem_cons hid]
        show vs ++ (v :: _) = _
        rw [List.append_assoc]
        rfl
      rw [eset]
      have s45 : Same (res (fun b => Dd b ∨ b = dn) H4) (res (fun b => Dd b ∨ b = dn) H5) := B.res fun b hb => .inl (hsub b (List.mem_cons_of_mem _ (z3 b hb)))
      have s56 : Same (res (fun b => Dd b ∨ b = dn) H5) (res (fun b => Dd b ∨ b = dn) (upd H5 dn (.dK (fkv (namesOf rs) ((vs ++ [v]) ++ ds.drop (i + 1)))))) := res_up fun b o n e => ⟨n, by rw [upd_ne fun z => n (.inr z)]; exact e⟩
      have em : mdsL (ps.take (i + 1)) = mdsL (ps.take i) ++ mi.mds := by rw [take_snoc hmi, mdsL_app, mdsL_cons, mdsL_nil, List.append_nil]
      refine ⟨_, nd4, vs ++ [v], rfl, ?_, ?_, upd_same, ?_, ?_, ?_, ?_⟩
      · rw [em]
        exact (mv.trans B).upd_ ndn1 fun z => (List.mem_append.mp z).elim (fun z => dnm (z4 dn z)) dnmi
      · intro c o nc e
        rw [upd_ne fun z => nc (by rw [z]; exact List.mem_cons_self ..)]
        exact kx5 c o nc e
      · rw [take_snoc hmi]
        exact (vpl.up (s45.trans s56) fun b hb => B.out b (z2 b hb)).snoc (vp.up s56 fun _ _ => rfl)
      · intro c hc
        by_cases z : c = dn
        · rw [z]; exact was_of upd_same
        · obtain ⟨o, e, ni⟩ := (dd.mv B) c hc
          exact ⟨o, by rw [upd_ne z]; exact e, ni⟩
      · rw [take_snoc hmi]
        exact (sol.up (s45.trans s56) fun b hb => B.out b (z2 b hb)).snoc (so.up s56 fun _ _ => rfl)
      · rw [take_snoc hmi]
        obtain ⟨L, o1, o2, o3⟩ := own
        have o4 := o1.has
        refine FrsL.snoc (H3 := H4) ⟨L, (o1.up (s45.trans s56) fun b hb => B.out b (z2 b hb)), o2, o3⟩ (fun {A'} w1 w2 a ha => ?_) (fun a ha => mv.none_ ha) (fr.up s56 fun _ _ => rfl)
        have e : A' = L := w1.same_ (o1.up (s45.trans s56) fun b hb => B.out b (z2 b hb))
        obtain ⟨o, g, _⟩ := o4 a (e ▸ ha)
        rw [(res_at g).2]
        exact fun z => by cases z
    · rintro σ H4 ⟨x5, nd3, vs, rfl, mv, kx, hdn, vpl, dd, sol, own⟩
      have e : ((as.map V.ref).length : Int).toNat = ps.length := by rw [List.length_map]; omega
      rw [e] at mv vpl hdn sol own
      rw [List.take_length] at mv vpl sol own
      rw [List.drop_of_length_le (by omega), List.append_nil] at hdn
      exact ⟨x5, nd3, vs, rfl, mv, kx, hdn, vpl, dd, sol, own⟩
  rintro σ H4 ⟨x5, nd3, vs, rfl, mv, kx, hdn, vpl, dd, sol, own⟩
  have hmv := hm0.mv mv mdk
  cases hmv with
  | md g1 g2 _ _ _ _ _ _ =>
  have lv := vpl.len
  have hp4 := off kx hp3 fun _ z => by cases z
  refine ⟨_, rfl, .inr (.inr (.inl ⟨rfl, .inl ⟨_, g1⟩⟩)), fun p7 np7 => ⟨_, rfl, ?_⟩⟩
  have n7 : d ≠ p7 := ne_of_none g1 np7
  refine ⟨upd_same, [(.inr "node", .ref p)], rfl, by show 1 ≤ 15; decide, d, p7, _, _, rfl, rfl, n7, by rw [upd_ne n7, upd_ne n7]; exact g1, upd_same, ?_, ?_⟩
  · have : (mdKv kd pl sp (nd3 d)).length ≤ 4 := by unfold mdKv; cases nd3 d <;> simp
    have e : (mergeK [] [((.inr "node" : Key), V.ref p)]).length = 1 := rfl
    omega
  rw [mdKv_put]
  have s45 : Same H4 (upd (upd H4 p7 (.dK [])) p7 (.dK (mergeK [] [((.inr "node" : Key), V.ref p)]))) := fun b o e => by
    have nb := ne_of_none e np7
    rw [upd_ne nb, upd_ne nb]
    exact e
  generalize upd (upd H4 p7 (.dK [])) p7 (.dK (mergeK [] [((.inr "node" : Key), V.ref p)])) = H5 at s45 ⊢
  have g15 := s45 _ _ g1
  have hDd : Dd d := hsub d (List.mem_cons_self ..)
  have mv6 : Mv [d] nd3 (fun b => if b = d then some p else nd3 b) H5 (upd H5 d (.dK (mdKv kd pl sp (some p)))) := by
    refine ⟨fun b o n e => ?_, fun b n => ?_, fun b hb k' pl' sp' e => ?_, fun b hb => ?_⟩
    · rw [upd_ne fun z => n (by rw [z]; simp)]
      exact e
    · exact if_neg fun z => n (by rw [z]; simp)
    · have eb := List.mem_singleton.mp hb
      subst eb
      rw [g15] at e
      obtain ⟨e1, e2, e3⟩ := mdKv_inj (HO.dK.inj (Option.some.inj e))
      subst e1 e2 e3
      show upd _ _ _ _ = some (.dK (mdKv _ _ _ (if b = b then some p else nd3 b)))
      rw [if_pos rfl]
      exact upd_same
    · rw [List.mem_singleton.mp hb]
      exact ⟨_, upd_same⟩
  have mvF : Mv (d :: mdsL ps) nd (fun b => if b = d then some p else nd3 b) H1 (upd H5 d (.dK (mdKv kd pl sp (some p)))) := by
    have z := (mv.trans (Mv.same s45)).trans mv6
    refine z.perm fun b => ?_
    simp only [List.append_nil, List.mem_append, List.mem_cons, List.not_mem_nil, or_false]
    exact ⟨fun z => z.symm, fun z => z.symm⟩
  have ndd' : d ≠ dn := fun z => ndd (z ▸ hDd)
  have ndp' : d ≠ p := fun z => ndp (z ▸ hDd)
  have up : ∀ b o, H4 b = some o → b ≠ d → (upd H5 d (.dK (mdKv kd pl sp (some p)))) b = some o := fun b o e n => by
    rw [upd_ne n]; exact s45 _ _ e
  have sR : Same (res (fun b => Dd b ∨ b = dn) H4) (res Dd (upd H5 d (.dK (mdKv kd pl sp (some p))))) := res_up fun b o n e => ⟨fun z => n (.inl z), up b o e fun z => n (.inl (by rw [z]; exact hDd))⟩
  have vplF := vpl.up (nd' := fun b => if b = d then some p else nd3 b) sR fun b hb => if_neg (fun (z : b = d) => hnd1 (by rw [← z]; exact hb))
  have rp := res_in (B := Dd) ndp (up p _ hp4 ndp'.symm)
  have rdn := res_in (B := Dd) ndd (up dn _ hdn ndd'.symm)
  have solF := sol.up (nd' := fun b => if b = d then some p else nd3 b) sR fun b hb => if_neg (fun (z : b = d) => hnd1 (by rw [← z]; exact hb))
  obtain ⟨nls, t, ft⟩ := vplF.tr
  have tr : Tr K C (res Dd (upd H5 d (.dK (mdKv kd pl sp (some p))))) p (p :: nls) := .mk ⟨dx, dn, m, rs, rp, rdn, row, by omega⟩ vplF.all t
  have nn : nodeOf C (res Dd (upd H5 d (.dK (mdKv kd pl sp (some p))))) (.ref p) = some p := by
    show nodeO C p (res Dd (upd H5 d (.dK (mdKv kd pl sp (some p)))) p) = some p
    rw [rp]
    show (if C = C then some p else none) = some p
    rw [if_pos rfl]
  have isl : isL (res Dd (upd H5 d (.dK (mdKv kd pl sp (some p))))) (.ref p) = false := by
    show isLO (res Dd (upd H5 d (.dK (mdKv kd pl sp (some p)))) p) = false
    rw [rp]; rfl
  have tyn : TyX K (res Dd (upd H5 d (.dK (mdKv kd pl sp (some p))))) (.ref p) (.ref C) := .base (.ins rp Ni.cl Ni.ha Ni.hn Ni.ht Ni.hm)
  have it : Itm K C (res Dd (upd H5 d (.dK (mdKv kd pl sp (some p))))) (.ref p) := ⟨fun b e => by cases e; rw [rp]; simp, .ref C, tyn, by rw [nn]; exact Ni.sf⟩
  have trl : TrL K C (res Dd (upd H5 d (.dK (mdKv kd pl sp (some p))))) [p] (p :: nls) := by
    have z := TrL.cons tr .nil
    rw [List.append_nil] at z
    exact z
  have fin : ∀ n' ls, All2 (MsN n') [MT.md d pl sp kd ps] ls → ls.map (fun x => (fun b => if b = d then some p else nd3 b) x.adr) = (p :: nls).map some := fun n' ls h => by
    cases h with
    | cons h hs =>
      cases hs
      rw [List.append_nil]
      cases n' with
      | zero => exact h.elim
      | succ n' =>
        obtain ⟨d', pl', sp', k', ps', ls', e1, rfl, al⟩ := h
        cases e1
        show (if d = d then some p else nd3 d) :: _ = some p :: _
        rw [if_pos rfl]
        congr 1
        exact ft n' ls' al
  exact ⟨_, rfl, q _ (.ref p) _ mvF ⟨it, p :: nls, by rw [nn]; exact trl, fin⟩ ⟨.inr ⟨it, isl, .ref C, tyn, Ni.nl⟩, p :: nls, by rw [kidsV_one isl, nn]; exact trl, fin⟩ (.md (if_pos rfl) rp rdn row (by omega) (by rw [ea0, ea1, ea2, ea3]; exact h3) solF) (by
    obtain ⟨L, o1, o2, o3⟩ := own
    refine ⟨dn :: L, .md (if_pos rfl) rp rdn row (by omega) (o1.up (nd' := fun b => if b = d then some p else nd3 b) sR fun b hb => if_neg (fun (z : b = d) => hnd1 (by rw [← z]; exact hb))), List.nodup_cons.mpr ⟨fun z => ?_, o2⟩, fun b hb => ?_⟩
    · obtain ⟨o, g, _⟩ := o1.has dn z
      exact (res_at g).1 (.inr rfl)
    · rcases List.mem_cons.mp hb with rfl | hb
      · exact ndn1
      · exact o3 b hb)⟩
end
end M4

namespace M4
open PySem PySem.Spec PyProof.Rows L2 StX TL
/-! ### nodes of models of any height -/
section
variable {P : Program} {w : World} {K : PySem.W.Frag} {mg : Str → Option Value} {base : Heap} {C : Addr} {Cs : Nat → Addr}
theorem ok_mades {fN fM fF fI fG fS : Addr} {dN dM dF dS : FuncData} (FN : Fun K "_law_node" "_law_node" sNd fN dN) (bN : Binds K dN ["_law_model_here"] []) (mNo : mg "_law_node" = some (.ref fN)) (FM : Fun K "_law_made_part" "_law_made_part" sMp fM dM) (bM : Binds K dM ["_law_part_here"] []) (mM : mg "_law_made_part" = some (.ref fM))
    (Z : Blt mg) (zD : mg "dict" = none) (W : ValI K C Cs) (Ni : NodeI K C) (Nc : NodeC K C fG fS) (MK : Mk K C fI) (mN : mg "Node" = some (.ref C)) (NI : FnRK P w K mg base CX0 5 fI attrs (spIniK 1 C attrs))
    (ST : FnOk P w K mg base CX0 1 fS dS ["self", "at", "worth"] (spSet C)) (bS : Binds K dS ["self", "at", "worth"] [])
    (FD : FnOk P w K mg base CX0 3 fF dF ["_law_kind"] spFd) (bF : Binds K dF ["_law_kind"] []) (kF : PySem.W.keepIn K (.ref fF) = true) (mF : mg "_law_fields" = some (.ref fF)) : ∀ n : Nat,
    FnOk P w K mg base CX0 (5 + 3 * n) fM dM ["_law_part_here"] (spMp K C Cs n) ∧ FnOk P w K mg base CX0 (5 + 3 * n + 2) fN dN ["_law_model_here"] (spNd K C Cs n)
  | 0 => ⟨no_mp, ok_nd FN Z Ni Nc MK mN (Nat.le_refl 5) NI ST bS FD bF kF mF no_mp bM FM.kp mM⟩
  | n + 1 => by
    obtain ⟨h1, h2⟩ := ok_mades FN bN mNo FM bM mM Z zD W Ni Nc MK mN NI ST bS FD bF kF mF n
    have z : FnOk P w K mg base CX0 (5 + 3 * n + 2 + 1) fM dM ["_law_part_here"] (spMp K C Cs (n + 1)) := ok_mp FM bM mM Z zD W (h1.mono (Nat.le_add_right _ 2)) h2 bN FN.kp mNo
    have e : 5 + 3 * n + 2 + 1 = 5 + 3 * (n + 1) := by omega
    rw [e] at z
    exact ⟨z, ok_nd FN Z Ni Nc MK mN (Nat.le_add_right _ _) NI ST bS FD bF kF mF z bM FM.kp mM⟩
end
end M4

namespace M4
open PySem PySem.Spec PyProof.Rows L2 StX TL
/-! ### a constant is equal to itself -/
abbrev sE0 : Stmt := inClass (topS 8) 0
abbrev sE1 : Stmt := inClass (topS 9) 1
abbrev sE2 : Stmt := inClass (topS 10) 1
abbrev sE3 : Stmt := inClass (topS 11) 1
theorem scE0 : FnScope ["self", "other"] ["self", "other"] (defScope sE0) := ⟨rfl, rfl, rfl, by decide +kernel, rfl, by decide +kernel, by decide +kernel⟩
theorem scE1 : FnScope ["self", "other"] ["self", "other"] (defScope sE1) := ⟨rfl, rfl, rfl, by decide +kernel, rfl, by decide +kernel, by decide +kernel⟩
theorem scE2 : FnScope ["self", "other"] ["self", "other"] (defScope sE2) := ⟨rfl, rfl, rfl, by decide +kernel, rfl, by decide +kernel, by decide +kernel⟩
theorem scE3 : FnScope ["self", "other"] ["self", "other"] (defScope sE3) := ⟨rfl, rfl, rfl, by decide +kernel, rfl, by decide +kernel, by decide +kernel⟩
/-- the same object of the j-th class -/
def RS (Cs : Nat → Addr) (j : Nat) : Addr → Addr → Hp → Prop := fun a b H => a = b ∧ ∃ dx fs, H a = some (.ins (Cs j) dx fs) ∧ CFs Cs H j fs
theorem RS.mon {Cs : Nat → Addr} {j : Nat} : ∀ a b H H', Ext H H' → RS Cs j a b H → RS Cs j a b H' := fun a b H H' e ⟨h, dx, fs, h1, h2⟩ => ⟨h, dx, fs, e _ _ h1, h2.map fun b o _ z => e b o z⟩
/-- what the written part says of the classes' own == -/
structure EqF (K : PySem.W.Frag) (mg : Str → Option Value) (C : Addr) (Cs fE : Nat → Addr) : Prop where
  eq : ∀ j, j < 4 → PySem.W.findIn K (.ref (Cs j)) "__eq__" = some (some (.ref (fE j)))
  fn : ∀ j, j < 4 → PySem.W.isFn K (.ref (fE j)) = true
  sf : ∀ j, j < 4 → PySem.W.kitOne K (.ref (Cs j)) (.ref (Cs j)) = some true
  kb : ∀ j, j < 4 → PySem.W.kitOne K (.ref (Cs j)) (.type "bool") = some false
  ks : ∀ j, j < 4 → PySem.W.kitOne K (.ref (Cs j)) (.type "str") = some false
  g0 : mg "Dots" = some (.ref (Cs 0))
  g1 : mg "Float" = some (.ref (Cs 1))
  g2 : mg "Imaginary" = some (.ref (Cs 2))
  g3 : mg "Octets" = some (.ref (Cs 3))
  n1 : NoAttr K (Cs 1) "mantissa"
  n2 : NoAttr K (Cs 1) "exponent"
  n3 : NoAttr K (Cs 2) "number"
  n4 : NoAttr K (Cs 3) "numbers"
section
variable {P : Program} {w : World} {K : PySem.W.Frag} {mg : Str → Option Value} {base : Heap} {C : Addr} {Cs fE : Nat → Addr}
theorem ok_e0 {f : Addr} {fd : FuncData} (F : Fun K "__eq__" "Dots.__eq__" sE0 f fd) (Z : Blt mg) (W : ValI K C Cs) (G : EqF K mg C Cs fE) : FnOk P w K mg base CX0 1 f fd ["self", "other"] (spEq (RS Cs 0)) := by
  refine F.ok scE0 (fun vs H Q E h => ?_) (fun cdv A outer s H vs Q E hr h => ?_)
  · obtain ⟨a, b, rfl, _⟩ := h
    rfl
  obtain ⟨a, b, rfl, ⟨rfl, dx, fs, h1, h2⟩, q⟩ := h
  refine ⟨_, (pss_one (ps_ret (pe_callB call_isi (by rfl) Z.isI (by decide +kernel) (pa_cons (pv 1) (pa_cons (pe_glob (v := .ref (Cs 0)) rfl G.g0 rfl) pa_nil))))), ?_⟩
  exact ⟨_, rfl, .ref a, .ref (Cs 0), _, _, _, rfl, .own _, .base (.ins h1 (W.cl 0 (by decide)) (W.ha 0 (by decide)) W.hn W.ht (W.hm 0 (by decide))), G.sf 0 (by decide), q H Ext.rfl'⟩
theorem ok_e1 {f : Addr} {fd : FuncData} (F : Fun K "__eq__" "Float.__eq__" sE1 f fd) (Z : Blt mg) (W : ValI K C Cs) (G : EqF K mg C Cs fE) : FnOk P w K mg base CX0 1 f fd ["self", "other"] (spEq (RS Cs 1)) := by
  refine F.ok scE1 (fun vs H Q E h => ?_) (fun cdv A outer s H vs Q E hr h => ?_)
  · obtain ⟨a, b, rfl, _⟩ := h
    rfl
  obtain ⟨a, b, rfl, ⟨rfl, dx, fs, h1, x, y, rfl⟩, q⟩ := h
  refine ⟨_, (pss_one (ps_ret (pe_and (pe_callB call_isi (by rfl) Z.isI (by decide +kernel) (pa_cons (pv 1) (pa_cons (pe_glob (v := .ref (Cs 1)) rfl G.g1 rfl) pa_nil))) (pe_and (pe_cmpR op_eq (pe_fld (pv 0) rfl) (pe_fld (pv 1) rfl) (nomark _)) (pe_one (pe_cmpR op_eq (pe_fld (pv 0) rfl) (pe_fld (pv 1) rfl) (nomark _))))))), ?_⟩
  have cl := W.cl 1 (by decide)
  refine ⟨_, rfl, .ref a, .ref (Cs 1), _, _, _, rfl, .own _, .base (.ins h1 cl (W.ha 1 (by decide)) W.hn W.ht (W.hm 1 (by decide))), G.sf 1 (by decide), _, rfl, iteT ?_⟩
  refine ⟨_, rfl, a, _, dx, _, .int x, rfl, h1, cl, G.n1, rfl, _, rfl, a, _, dx, _, .int x, rfl, h1, cl, G.n1, rfl, rfl, _, rfl, ?_⟩
  rw [decide_eq_true (rfl : V.int x = V.int x)]
  refine iteT ?_
  refine ⟨_, rfl, a, _, dx, _, .int y, rfl, h1, cl, G.n2, rfl, _, rfl, a, _, dx, _, .int y, rfl, h1, cl, G.n2, rfl, rfl, ?_⟩
  rw [decide_eq_true (rfl : V.int y = V.int y)]
  exact q H Ext.rfl'
theorem ok_e2 {f f1 : Addr} {fd d1 : FuncData} (F : Fun K "__eq__" "Imaginary.__eq__" sE2 f fd) (Z : Blt mg) (W : ValI K C Cs) (G : EqF K mg C Cs fE) (E1 : FnOk P w K mg base CX0 1 (fE 1) d1 ["self", "other"] (spEq (RS Cs 1))) (b1 : Binds K d1 ["self", "other"] []) : FnOk P w K mg base CX0 2 f fd ["self", "other"] (spEq (RS Cs 2)) := by
  refine F.ok scE2 (fun vs H Q E h => ?_) (fun cdv A outer s H vs Q E hr h => ?_)
  · obtain ⟨a, b, rfl, _⟩ := h
    rfl
  obtain ⟨a, b, rfl, ⟨rfl, dx, fs, h1, p, dp, x, y, rfl, hp⟩, q⟩ := h
  refine ⟨_, (pss_one (ps_ret (pe_and (pe_callB call_isi (by rfl) Z.isI (by decide +kernel) (pa_cons (pv 1) (pa_cons (pe_glob (v := .ref (Cs 2)) rfl G.g2 rfl) pa_nil))) (pe_one (pe_cmpR (op_eqG (rcG_ins (X := _) E1 (G.eq 1 (by decide)) (G.fn 1 (by decide)) b1 pass0) hr) (pe_fld (pv 0) rfl) (pe_fld (pv 1) rfl) (nomark _)))))), ?_⟩
  have cl := W.cl 2 (by decide)
  refine ⟨_, rfl, .ref a, .ref (Cs 2), _, _, _, rfl, .own _, .base (.ins h1 cl (W.ha 2 (by decide)) W.hn W.ht (W.hm 2 (by decide))), G.sf 2 (by decide), _, rfl, iteT ?_⟩
  refine ⟨_, rfl, a, _, dx, _, .ref p, rfl, h1, cl, G.n3, rfl, _, rfl, a, _, dx, _, .ref p, rfl, h1, cl, G.n3, rfl, ?_⟩
  exact ⟨⟨p, p, dp, dp, _, _, rfl, rfl, hp, hp, rfl, dp, _, hp, x, y, rfl⟩, fun H' e => q H' e⟩
theorem ok_e3 {f : Addr} {fd : FuncData} (F : Fun K "__eq__" "Octets.__eq__" sE3 f fd) (Z : Blt mg) (W : ValI K C Cs) (G : EqF K mg C Cs fE) : FnOk P w K mg base CX0 2 f fd ["self", "other"] (spEq (RS Cs 3)) := by
  refine F.ok scE3 (fun vs H Q E h => ?_) (fun cdv A outer s H vs Q E hr h => ?_)
  · obtain ⟨a, b, rfl, _⟩ := h
    rfl
  obtain ⟨a, b, rfl, ⟨rfl, dx, fs, h1, t, is, rfl, ht⟩, q⟩ := h
  refine ⟨_, (pss_one (ps_ret (pe_and (pe_callB call_isi (by rfl) Z.isI (by decide +kernel) (pa_cons (pv 1) (pa_cons (pe_glob (v := .ref (Cs 3)) rfl G.g3 rfl) pa_nil))) (pe_one (pe_cmpR (op_eqG (rcG_tup mon_flat eqG_flat) hr) (pe_fld (pv 0) rfl) (pe_fld (pv 1) rfl) (nomark _)))))), ?_⟩
  have cl := W.cl 3 (by decide)
  refine ⟨_, rfl, .ref a, .ref (Cs 3), _, _, _, rfl, .own _, .base (.ins h1 cl (W.ha 3 (by decide)) W.hn W.ht (W.hm 3 (by decide))), G.sf 3 (by decide), _, rfl, iteT ?_⟩
  refine ⟨_, rfl, a, _, dx, _, .ref t, rfl, h1, cl, G.n4, rfl, _, rfl, a, _, dx, _, .ref t, rfl, h1, cl, G.n4, rfl, ?_⟩
  refine ⟨⟨t, t, _, _, rfl, rfl, SqT.of ht, SqT.of ht, rfl, fun i x y e1 e2 => ?_⟩, fun H' e => q H' e⟩
  rw [e1] at e2
  cases e2
  rw [List.getElem?_map] at e1
  obtain ⟨z, _, rfl⟩ := Option.map_eq_some_iff.mp e1
  exact ⟨rfl, rfl, by simp [eqV]⟩
/-- the four -/
structure Eqs (P : Program) (w : World) (K : PySem.W.Frag) (mg : Str → Option Value) (base : Heap) (C : Addr) (Cs fE : Nat → Addr) (dE : Nat → FuncData) : Prop where
  g : EqF K mg C Cs fE
  ok : ∀ j, j < 4 → FnOk P w K mg base CX0 2 (fE j) (dE j) ["self", "other"] (spEq (RS Cs j))
  b : ∀ j, j < 4 → Binds K (dE j) ["self", "other"] []
/-- x == x -/
def rSelf (Cs : Nat → Addr) : R2 := fun x y H Q => x = y ∧ Cst Cs H x ∧ ∀ H', Ext H H' → Q (.bl true) H'
theorem op_self {X : Cx} {dE : Nat → FuncData} (S : Eqs X.prog X.w X.K X.mg X.base C Cs fE dE) (hr : Room 2 X.A) : OpR X (compareOp .Eq) (rSelf Cs) := by
  intro pins s σ H x y v u Q I rx ry h
  obtain ⟨rfl, c, q⟩ := h
  cases c with
  | non => exact op_eq pins s σ H _ _ v u Q I rx ry ⟨rfl, by rw [decide_eq_true rfl]; exact q H Ext.rfl'⟩
  | bl b => exact op_eq pins s σ H _ _ v u Q I rx ry ⟨rfl, by rw [decide_eq_true rfl]; exact q H Ext.rfl'⟩
  | int i => exact op_eq pins s σ H _ _ v u Q I rx ry ⟨rfl, by rw [decide_eq_true rfl]; exact q H Ext.rfl'⟩
  | str z => exact op_eq pins s σ H _ _ v u Q I rx ry ⟨rfl, by rw [decide_eq_true rfl]; exact q H Ext.rfl'⟩
  | @obj p dx j fs hj hp hf =>
    exact op_eqG (rcG_ins (S.ok j hj) (S.g.eq j hj) (S.g.fn j hj) (S.b j hj) pass0) hr pins s σ H _ _ v u Q I rx ry ⟨⟨p, p, dx, dx, fs, fs, rfl, rfl, hp, hp, rfl, dx, fs, hp, hf⟩, q⟩
end
end M4

namespace M4
open PySem PySem.Spec PyProof.Rows L2 StX TL RZ
/-! ### what was made is as the model says: the law looks -/
abbrev sIp : Stmt := topS 38
theorem scIp : FnScope ["_law_found", "_law_part_here", "_law_one", "_law_two"] ["_law_found", "_law_part_here"] (defScope sIp) := ⟨rfl, rfl, rfl, by decide +kernel, rfl, by decide +kernel, by decide +kernel⟩
def spIp (C : Addr) (Cs : Nat → Addr) (n : Nat) : Sp := fun vs H Q _ => ∃ (nd : Addr → Option Addr) (m : MT) (v : V), vs = [v, m.val] ∧ MAt Cs nd H m ∧ So C nd H H m v ∧ m.hgt < n ∧ ∀ H', Same H H' → Q (.bl true) H'
def spIs (C : Addr) (Cs : Nat → Addr) (n : Nat) : Sp := fun vs H Q _ => ∃ (nd : Addr → Option Addr) (m : MT) (v : V), vs = [v, m.val] ∧ isMd m = true ∧ MAt Cs nd H m ∧ So C nd H H m v ∧ m.hgt ≤ n ∧ ∀ H', Same H H' → Q (.bl true) H'
theorem SoL.get {C : Addr} {nd : Addr → Option Addr} {S R : Hp} : ∀ {ms : List MT} {vs : List V}, SoL C nd S R ms vs → ∀ {i : Nat} {m : MT} {v : V}, ms[i]? = some m → vs[i]? = some v → So C nd S R m v
  | _, _, .nil, i, m, v, h, _ => by simp at h
  | _, _, .cons h hs, 0, m, v, e1, e2 => by cases e1; cases e2; exact h
  | _, _, .cons h hs, i + 1, m, v, e1, e2 => hs.get (i := i) e1 e2
theorem SoL.len {C : Addr} {nd : Addr → Option Addr} {S R : Hp} : ∀ {ms : List MT} {vs : List V}, SoL C nd S R ms vs → vs.length = ms.length
  | _, _, .nil => rfl
  | _, _, .cons _ hs => congrArg (· + 1) hs.len
theorem So.same {C : Addr} {nd : Addr → Option Addr} {Cs : Nat → Addr} {H H' : Hp} {m : MT} {v : V} (h : So C nd H H m v) (a : MAt Cs nd H m) (s : Same H H') : So C nd H' H' m v :=
  (h.up s fun _ _ => rfl).fw s
theorem bl_nn (b : Bool) : (!decide (V.bl b = V.bl b)) = false := by simp
theorem bl_ee (b : Bool) : decide (V.bl b = V.bl b) = true := by simp
theorem any3 {K : PySem.W.Frag} {t c1 c2 c3 : Value} (h1 : PySem.W.kitOne K t c1 = some false) (h2 : PySem.W.kitOne K t c2 = some false) (h3 : PySem.W.kitOne K t c3 = some false) : PySem.W.kitAny K t [c1, c2, c3] = some false := by
  refine kitAny_cons h1 (fun h => kitAny_cons h2 (fun h' => kitAny_cons h3 (fun h'' => ?_) fun h'' => (by cases h'')) fun h' => (by cases h')) fun h => (by cases h)
  rfl
section
variable {P : Program} {w : World} {K : PySem.W.Frag} {mg : Str → Option Value} {base : Heap} {C : Addr} {Cs fE : Nat → Addr} {dE : Nat → FuncData}
theorem Cst.bs (W : ValI K C Cs) (G : EqF K mg C Cs fE) {H : Hp} {v : V} (h : Cst Cs H v) : ∃ t, TyX K H v t ∧ PySem.W.kitOne K t (.ref C) = some false ∧ (∀ T ∈ seqTs, PySem.W.kitOne K t T = some false) ∧ (∃ b, PySem.W.kitOne K t (.type "bool") = some b) ∧ ∃ b, PySem.W.kitOne K t (.type "str") = some b := by
  obtain ⟨t, h1, h2, h3⟩ := h.ty W
  cases h with
  | non => exact ⟨_, .base .non, W.nt _ (by simp), (by unfold seqTs; intro T hT; simp only [List.mem_cons, List.not_mem_nil, or_false] at hT; rcases hT with rfl | rfl | rfl <;> exact kit_ty (by decide +kernel)), ⟨_, kit_ty (by show _ = some false; decide +kernel)⟩, ⟨_, kit_ty (by show _ = some false; decide +kernel)⟩⟩
  | bl b => exact ⟨_, .base (.bl b), W.nt _ (by simp), (by unfold seqTs; intro T hT; simp only [List.mem_cons, List.not_mem_nil, or_false] at hT; rcases hT with rfl | rfl | rfl <;> exact kit_ty (by decide +kernel)), ⟨_, kit_ty (by show _ = some true; decide +kernel)⟩, ⟨_, kit_ty (by show _ = some false; decide +kernel)⟩⟩
  | int i => exact ⟨_, .base (.int i), W.nt _ (by simp), (by unfold seqTs; intro T hT; simp only [List.mem_cons, List.not_mem_nil, or_false] at hT; rcases hT with rfl | rfl | rfl <;> exact kit_ty (by decide +kernel)), ⟨_, kit_ty (by show _ = some false; decide +kernel)⟩, ⟨_, kit_ty (by show _ = some false; decide +kernel)⟩⟩
  | str x => exact ⟨_, .base (.str x), W.nt _ (by simp), (by unfold seqTs; intro T hT; simp only [List.mem_cons, List.not_mem_nil, or_false] at hT; rcases hT with rfl | rfl | rfl <;> exact kit_ty (by decide +kernel)), ⟨_, kit_ty (by show _ = some false; decide +kernel)⟩, ⟨_, kit_ty (by show _ = some true; decide +kernel)⟩⟩
  | obj hj h hf => exact ⟨_, .base (.ins h (W.cl _ hj) (W.ha _ hj) W.hn W.ht (W.hm _ hj)), W.kn _ hj, W.kt _ hj, ⟨_, G.kb _ hj⟩, ⟨_, G.ks _ hj⟩⟩
theorem ok_ip {f fS : Addr} {fd dS : FuncData} (F : Fun K "_law_is_part" "_law_is_part" sIp f fd) (bF : Binds K fd ["_law_found", "_law_part_here"] []) (mF : mg "_law_is_part" = some (.ref f)) (Z : Blt mg) (zD : mg "dict" = none) (zA : mg "all" = none) (W : ValI K C Cs) (Ni : NodeI K C) (mN : mg "Node" = some (.ref C)) (S : Eqs P w K mg base C Cs fE dE) {n k : Nat} (hk : 2 ≤ k) (ih : FnOk P w K mg base CX0 k f fd ["_law_found", "_law_part_here"] (spIp C Cs n))
    (IS : FnOk P w K mg base CX0 k fS dS ["_law_node_here", "_law_model_here"] (spIs C Cs n)) (bS : Binds K dS ["_law_node_here", "_law_model_here"] []) (kS : PySem.W.keepIn K (.ref fS) = true) (mS : mg "_law_is_so" = some (.ref fS)) : FnOk P w K mg base CX0 (k + 1) f fd ["_law_found", "_law_part_here"] (spIp C Cs (n + 1)) := by
  refine F.ok scIp (fun vs H Q E h => ?_) (fun cdv A outer s H vs Q E hr h => ?_)
  · obtain ⟨nd, m, v, rfl, _⟩ := h
    rfl
  obtain ⟨nd, m, v, rfl, hm, hs, hh, q⟩ := h
  have hr2 := hr.mono hk
  refine ⟨_, (C8.pss_cut (ps_if (pt_val (pe_callB call_isi (by rfl) Z.isI (by decide +kernel) (pa_cons (pv 1) (pa_cons (pe_bltn (v := .ty "dict") (by rfl) zD (by decide +kernel) rfl) pa_nil)))) (pss_one (ps_ret (pe_and (pe_callB call_isi (by rfl) Z.isI (by decide +kernel) (pa_cons (pv 0) (pa_cons (pe_glob (v := .ref C) rfl mN rfl) pa_nil))) (pe_one (pe_call IS hr rfl mS kS bS .nil pass0 (pa_cons (pv 0) (pa_cons (pv 1) pa_nil))))))) pss_nil)
    (C8.pss_cut (ps_if (pt_val (pe_callB call_isiT (by rfl) Z.isI (by decide +kernel) (pa_cons (pv 1) (pa_cons (pe_tup (pa_cons (pe_bltn (v := .ty "list") (by rfl) Z.ls (by decide +kernel) rfl) (pa_cons (pe_bltn (v := .ty "tuple") (by rfl) Z.tp (by decide +kernel) rfl) pa_nil))) pa_nil)))) (C8.pss_cut (ps_if (PW.pt (pw_or (pt_cmpR op_ne (pe_callB call_isi (by rfl) Z.isI (by decide +kernel) (pa_cons (pv 0) (pa_cons (pe_bltn (v := .ty "list") (by rfl) Z.ls (by decide +kernel) rfl) pa_nil))) (pe_callB call_isi (by rfl) Z.isI (by decide +kernel) (pa_cons (pv 1) (pa_cons (pe_bltn (v := .ty "list") (by rfl) Z.ls (by decide +kernel) rfl) pa_nil))) (nomark _)) (pw_or1 (pt_cmpR op_ne (pe_callB call_isi (by rfl) Z.isI (by decide +kernel) (pa_cons (pv 0) (pa_cons (pe_bltn (v := .ty "tuple") (by rfl) Z.tp (by decide +kernel) rfl) pa_nil))) (pe_callB call_isi (by rfl) Z.isI (by decide +kernel) (pa_cons (pv 1) (pa_cons (pe_bltn (v := .ty "tuple") (by rfl) Z.tp (by decide +kernel) rfl) pa_nil))) (nomark _))))) (pss_one (ps_ret pe_bl)) pss_nil)
    (pss_one (ps_ret (pe_and (pe_cmpR op_eq (pe_callB call_len_seq rfl Z.ln PySem.boot_len (pa_cons (pv 0) pa_nil)) (pe_callB call_len_seq rfl Z.ln PySem.boot_len (pa_cons (pv 1) pa_nil)) (nomark _)) (pe_one (pe_callB (cr_all rfl) (by rfl) zA (by decide +kernel) (pa_cons (pe_lc (own := [("_law_one", 2), ("_law_two", 3)]) (g := gTup K 2 (gCons (gName 2) (gCons (gName 3) (gNil)))) (tt := tYes) rfl scIp.nd (pi_zipA (by rfl) Z.zp (pa_cons (pv 0) (pa_cons (pv 1) pa_nil))) (blkOk_by (own := [("_law_one", 2), ("_law_two", 3)]) (N := ["_law_found", "_law_part_here", "_law_one", "_law_two"]) (sc := (defScope sIp)) (by decide +kernel)) (fun _ _ _ _ _ => (pg_tup (by rfl) (pgs_cons (pg_name (i := 2) scIp.nd rfl (.inl rfl)) (pgs_cons (pg_name (i := 3) scIp.nd rfl (.inl rfl)) pgs_nil)))) (fun _ _ _ _ _ => pts_nil) (fun _ _ _ _ _ => (pe_call ih hr rfl mF F.kp bF .nil pass0 (pa_cons (pv 2) (pa_cons (pv 3) pa_nil))))) pa_nil))))))) pss_nil)
    (C8.pss_cut (ps_if (PW.pt (pw_or (pt_val (pe_callB call_isiT (by rfl) Z.isI (by decide +kernel) (pa_cons (pv 0) (pa_cons (pe_tup (pa_cons (pe_glob (v := .ref C) rfl mN rfl) (pa_cons (pe_bltn (v := .ty "list") (by rfl) Z.ls (by decide +kernel) rfl) (pa_cons (pe_bltn (v := .ty "tuple") (by rfl) Z.tp (by decide +kernel) rfl) pa_nil)))) pa_nil)))) (pw_or1 (pt_cmpR op_ne (pe_callB call_isi (by rfl) Z.isI (by decide +kernel) (pa_cons (pv 0) (pa_cons (pe_bltn (v := .ty "bool") (by rfl) Z.bo (by decide +kernel) rfl) pa_nil))) (pe_callB call_isi (by rfl) Z.isI (by decide +kernel) (pa_cons (pv 1) (pa_cons (pe_bltn (v := .ty "bool") (by rfl) Z.bo (by decide +kernel) rfl) pa_nil))) (nomark _))))) (pss_one (ps_ret pe_bl)) pss_nil)
    (pss_one (ps_ret (pe_and (pe_cmpR (op_self S hr2) (pv 0) (pv 1) (nomark _)) (pe_one (pe_cmpR op_eq (pe_callB call_isi (by rfl) Z.isI (by decide +kernel) (pa_cons (pv 0) (pa_cons (pe_bltn (v := .ty "str") (by rfl) Z.st (by decide +kernel) rfl) pa_nil))) (pe_callB call_isi (by rfl) Z.isI (by decide +kernel) (pa_cons (pv 1) (pa_cons (pe_bltn (v := .ty "str") (by rfl) Z.st (by decide +kernel) rfl) pa_nil))) (nomark _))))))))), ?_⟩
  obtain ⟨ty, h1, h2, h3, h4⟩ := hm.tyT W
  have zS : (1000 : Nat) ≤ sizeLine := by decide
  refine ⟨fun σ H2 => σ = [some v, some m.val, none, none] ∧ H2 = H ∧ isMd m = false, ?_, ?_⟩
  · refine ⟨_, rfl, m.val, .ty "dict", _, _, _, rfl, .ty _, h1, h3, _, rfl, ?_⟩
    cases hd : isMd m with
    | false => exact iteF ⟨rfl, rfl, rfl⟩
    | true =>
      refine iteT ?_
      cases hs with
      | at_ => cases hd
      | ls _ _ => cases hd
      | tu _ _ => cases hd
      | md g1 g2 g3 g4 g5 g6 g7 =>
        exact ⟨_, rfl, _, .ref C, _, _, _, rfl, .own _, .base (.ins g2 Ni.cl Ni.ha Ni.hn Ni.ht Ni.hm), Ni.sf, _, rfl, iteT ⟨_, rfl, _, rfl, nd, _, _, rfl, hd, hm, .md g1 g2 g3 g4 g5 g6 g7, by omega, q⟩⟩
  rintro σ H2 ⟨rfl, rfl, hd⟩
  -- the items
  have items : ∀ (ps : List MT) (xs : List V) (H1 : Hp), MAtL Cs nd H1 ps → SoL C nd H1 H1 ps xs → hgtL ps < n → ps.length ≤ 100 → ∀ (D2 : Addr) (i : Nat) (H4 : Hp) (x y : V), H1 D2 = none → Same H1 H4 → H4 D2 = some (.lst ((List.replicate i true).map V.bl)) → xs[i]? = some x → (ps.map MT.val)[i]? = some y →
      ∀ (R : V → Hp → Prop), (∀ (H5 : Hp), (∃ acc, H5 D2 = some (.lst acc) ∧ acc.length < sizeLine ∧ Same H1 (upd H5 D2 (.lst (acc ++ [V.bl true]))) ∧ (upd H5 D2 (.lst (acc ++ [V.bl true]))) D2 = some (.lst ((List.replicate (i + 1) true).map V.bl))) → R (.bl true) H5) → ∃ E, spIp C Cs n [x, y] H4 R E := by
    intro ps xs H1 hps hsl hh hl D2 i H4 x y nD2 s4 h4 hx hy R hR
    rw [List.getElem?_map] at hy
    obtain ⟨mi, hmi, rfl⟩ := Option.map_eq_some_iff.mp hy
    have hg := hgtL_at hmi
    have hmA := hps.mem mi (List.mem_of_getElem? hmi)
    have hi := (List.getElem?_eq_some_iff.mp hmi).1
    refine ⟨fun _ _ _ => False, nd, mi, x, rfl, hmA.up s4, (hsl.get hmi hx).same hmA s4, by omega, fun H5 s5 => hR H5 ⟨_, s5 _ _ h4, ?_, fun b o e => ?_, ?_⟩⟩
    · rw [List.length_map, List.length_replicate]
      omega
    · rw [upd_ne (ne_of_none e nD2)]
      exact s5 _ _ (s4 _ _ e)
    · rw [upd_same, List.replicate_succ', List.map_append]
      rfl
  have allT : ∀ j : Nat, ((List.replicate j true).all id) = true := fun j => by simp
  refine ⟨fun σ H3 => σ = [some v, some m.val, none, none] ∧ Same H2 H3 ∧ isLs m = false ∧ isTu m = false, ?_, ?_⟩
  · refine ⟨_, rfl, by show 2 ≤ sizeLine; decide, fun tp ntp => ?_⟩
    have s1 := same_new (o := .tup [.ty "list", .ty "tuple"]) ntp
    refine ⟨m.val, tp, _, _, _, _, rfl, upd_same, .cons (.ty _) (.cons (.ty _) .nil), tyX_up h1 s1, h4, _, rfl, ?_⟩
    generalize upd H2 tp (.tup [.ty "list", .ty "tuple"]) = H1 at s1
    have hm1 := hm.up s1
    have hs1 := hs.same hm s1
    cases hs1 with
    | md _ _ _ _ _ _ _ => cases hd
    | at_ => exact iteF ⟨rfl, s1, rfl, rfl⟩
    | @ls a D ps xs hD sl =>
      refine iteT ?_
      rw [hgt_ls] at hh
      cases hm1 with
      | ls ha hl hps =>
      have kL : PySem.W.kitOne K (.type "list") (.type "tuple") = some false := kit_ty (by decide +kernel)
      refine ⟨fun σ H3 => σ = [some (.ref D), some (.ref a), none, none] ∧ H3 = H1, ?_, ?_⟩
      · refine ⟨_, rfl, .ref D, .ty "list", _, _, _, rfl, .ty _, .base (.lst hD), lst_in, _, rfl, .ref a, .ty "list", _, _, _, rfl, .ty _, .base (.lst ha), lst_in, rfl, _, rfl, ?_⟩
        rw [bl_nn]
        refine iteF ?_
        refine ⟨_, rfl, .ref D, .ty "tuple", _, _, _, rfl, .ty _, .base (.lst hD), kL, _, rfl, .ref a, .ty "tuple", _, _, _, rfl, .ty _, .base (.lst ha), kL, rfl, _, rfl, ?_⟩
        rw [bl_nn]
        exact iteF ⟨rfl, rfl⟩
      rintro σ H3 ⟨rfl, rfl⟩
      refine ⟨_, rfl, D, _, rfl, .inl (SqL.of hD), _, rfl, a, _, rfl, .inl (SqL.of ha), rfl, _, rfl, ?_⟩
      rw [List.length_map, sl.len, decide_eq_true rfl]
      refine iteT ?_
      refine ⟨_, rfl, _, rfl, D, a, _, _, rfl, .inl ⟨SqL.of hD, SqL.of ha, fun D2 nD2 => ?_⟩⟩
      refine lc_it (walk_zip (n := ps.length) (by rw [List.length_map, sl.len, Nat.min_self])) (fun i H5 => Same H3 H5 ∧ H5 D2 = some (.lst ((List.replicate i true).map V.bl))) ⟨same_new nD2, upd_same⟩ (fun i H5 _ ⟨s5, _⟩ => ⟨SqL.of (s5 _ _ hD), SqL.of (s5 _ _ ha)⟩) ?_ ?_
      · rintro i x H5 H6 hi ⟨s5, hD5⟩ ⟨T, x1, y1, rfl, nT, rfl, hx, hy⟩
        have s6 := same_new (o := .tup [x1, y1]) nT
        refine ⟨T, _, rfl, SqT.of upd_same, rfl, _, _, rfl, _, _, rfl, rfl, rfl, ?_⟩
        unfold tYes
        refine iteT ?_
        obtain ⟨E', z⟩ := items ps xs H3 hps sl (by omega) hl D2 i _ x1 y1 nD2 (s5.trans s6) (s6 _ _ hD5) hx hy (fun y H5 => ∃ acc, H5 D2 = some (.lst acc) ∧ acc.length < sizeLine ∧ Same H3 (upd H5 D2 (.lst (acc ++ [y]))) ∧ (upd H5 D2 (.lst (acc ++ [y]))) D2 = some (.lst ((List.replicate (i + 1) true).map V.bl))) (fun H5 h => h)
        exact ⟨_, rfl, _, rfl, z⟩
      · rintro H5 ⟨s5, hD5⟩
        refine ⟨D2, _, rfl, SqL.of hD5, ?_⟩
        rw [allT]
        exact q H5 (s1.trans s5)
    | @tu a D ps xs hD sl =>
      refine iteT ?_
      rw [hgt_tu] at hh
      cases hm1 with
      | tu ha hl hps =>
      have kL : PySem.W.kitOne K (.type "tuple") (.type "list") = some false := kit_ty (by decide +kernel)
      have kT : PySem.W.kitOne K (.type "tuple") (.type "tuple") = some true := kit_ty (by decide +kernel)
      refine ⟨fun σ H3 => σ = [some (.ref D), some (.ref a), none, none] ∧ H3 = H1, ?_, ?_⟩
      · refine ⟨_, rfl, .ref D, .ty "list", _, _, _, rfl, .ty _, .base (.tup hD), kL, _, rfl, .ref a, .ty "list", _, _, _, rfl, .ty _, .base (.tup ha), kL, rfl, _, rfl, ?_⟩
        rw [bl_nn]
        refine iteF ?_
        refine ⟨_, rfl, .ref D, .ty "tuple", _, _, _, rfl, .ty _, .base (.tup hD), kT, _, rfl, .ref a, .ty "tuple", _, _, _, rfl, .ty _, .base (.tup ha), kT, rfl, _, rfl, ?_⟩
        rw [bl_nn]
        exact iteF ⟨rfl, rfl⟩
      rintro σ H3 ⟨rfl, rfl⟩
      refine ⟨_, rfl, D, _, rfl, .inr (SqT.of hD), _, rfl, a, _, rfl, .inr (SqT.of ha), rfl, _, rfl, ?_⟩
      rw [List.length_map, sl.len, decide_eq_true rfl]
      refine iteT ?_
      refine ⟨_, rfl, _, rfl, D, a, _, _, rfl, .inr ⟨SqT.of hD, SqT.of ha, fun D2 nD2 => ?_⟩⟩
      refine lc_it (walk_zipT (n := ps.length) (by rw [List.length_map, sl.len, Nat.min_self])) (fun i H5 => Same H3 H5 ∧ H5 D2 = some (.lst ((List.replicate i true).map V.bl))) ⟨same_new nD2, upd_same⟩ (fun i H5 _ ⟨s5, _⟩ => ⟨SqT.of (s5 _ _ hD), SqT.of (s5 _ _ ha)⟩) ?_ ?_
      · rintro i x H5 H6 hi ⟨s5, hD5⟩ ⟨T, x1, y1, rfl, nT, rfl, hx, hy⟩
        have s6 := same_new (o := .tup [x1, y1]) nT
        refine ⟨T, _, rfl, SqT.of upd_same, rfl, _, _, rfl, _, _, rfl, rfl, rfl, ?_⟩
        unfold tYes
        refine iteT ?_
        obtain ⟨E', z⟩ := items ps xs H3 hps sl (by omega) hl D2 i _ x1 y1 nD2 (s5.trans s6) (s6 _ _ hD5) hx hy (fun y H5 => ∃ acc, H5 D2 = some (.lst acc) ∧ acc.length < sizeLine ∧ Same H3 (upd H5 D2 (.lst (acc ++ [y]))) ∧ (upd H5 D2 (.lst (acc ++ [y]))) D2 = some (.lst ((List.replicate (i + 1) true).map V.bl))) (fun H5 h => h)
        exact ⟨_, rfl, _, rfl, z⟩
      · rintro H5 ⟨s5, hD5⟩
        refine ⟨D2, _, rfl, SqL.of hD5, ?_⟩
        rw [allT]
        exact q H5 (s1.trans s5)
  rintro σ H3 ⟨rfl, s3, hl, ht⟩
  have hm3 := hm.up s3
  cases hs with
  | md _ _ _ _ _ _ _ => cases hd
  | ls _ _ => cases hl
  | tu _ _ => cases ht
  | at_ =>
    cases hm3 with
    | at_ hc =>
    refine ⟨fun σ H4 => σ = [some v, some v, none, none] ∧ Same H3 H4, ?_, ?_⟩
    · obtain ⟨t, t1, t2, t3, ⟨bb, t4⟩, ⟨bs, t5⟩⟩ := hc.bs W S.g
      refine ⟨_, rfl, by show 3 ≤ sizeLine; decide, fun tp ntp => ?_⟩
      have s4 := same_new (o := .tup [.ref C, .ty "list", .ty "tuple"]) ntp
      refine ⟨v, tp, _, _, _, _, rfl, upd_same, .cons (.own _) (.cons (.ty _) (.cons (.ty _) .nil)), tyX_up t1 s4, any3 t2 (t3 _ (by simp [seqTs])) (t3 _ (by simp [seqTs])), _, rfl, iteF ?_⟩
      generalize upd H3 tp (.tup [.ref C, .ty "list", .ty "tuple"]) = H4 at s4 ⊢
      have t1' := tyX_up t1 s4
      refine ⟨_, rfl, v, .ty "bool", _, _, _, rfl, .ty _, t1', t4, _, rfl, v, .ty "bool", _, _, _, rfl, .ty _, t1', t4, rfl, _, rfl, ?_⟩
      rw [bl_nn]
      exact iteF ⟨rfl, s4⟩
    rintro σ H4 ⟨rfl, s4⟩
    have hc4 := hc.up s4
    refine ⟨_, rfl, _, rfl, rfl, hc4, fun H5 s5 => ⟨_, rfl, iteT ?_⟩⟩
    obtain ⟨t, t1, t2, t3, ⟨bb, t4⟩, ⟨bs, t5⟩⟩ := (hc4.up s5).bs W S.g
    refine ⟨_, rfl, v, .ty "str", _, _, _, rfl, .ty _, t1, t5, _, rfl, v, .ty "str", _, _, _, rfl, .ty _, t1, t5, rfl, ?_⟩
    rw [bl_ee]
    exact q H5 ((s3.trans s4).trans s5)
end
end M4

namespace M4
open PySem PySem.Spec PyProof.Rows L2 StX TL RZ
abbrev sIs : Stmt := topS 39
theorem scIs : FnScope ["_law_node_here", "_law_model_here", "_law_spot_here", "_law_names", "_law_pairs", "_law_name", "_law_what", "_law_k", "_law_one", "_law_two"] ["_law_node_here", "_law_model_here"] (defScope sIs) := ⟨rfl, rfl, rfl, by decide +kernel, rfl, by decide +kernel, by decide +kernel⟩
theorem ixnK {X : Cx} {K : PySem.W.Frag} (e : X.K = K) {C fG fS : Addr} {gd : FuncData} {m : Nat} {a b : Expr} {ta tb : TE} {pos : Pos} (N : NodeC K C fG fS) (F : FnOk X.prog X.w K X.mg X.base CX0 m fG gd ["self", "at"] (spGet C)) (hb : Binds K gd ["self", "at"] []) (hr : Room (m + 1) X.A) (h1 : PE X a ta) (h2 : PE X b tb)
    (hs : ∀ o i, subscripted b true o i = runValue (.builtin "lifetime.subscript" ⟨[o, i], []⟩) := by intro _ _; rfl) : PE X (.Subscript a b pos) (tIxN C ta tb) := by
  subst e
  exact pe_ixN N F hb hr h1 h2 hs
theorem num_flat {x : V} (h : isNum x = true) : flatV x = true ∧ flatV x = true ∧ eqV x x = true := by
  cases x with
  | non => exact ⟨rfl, rfl, rfl⟩
  | int i => exact ⟨rfl, rfl, by simp [eqV]⟩
  | _ => cases h
section
variable {P : Program} {w : World} {K : PySem.W.Frag} {mg : Str → Option Value} {base : Heap} {C : Addr} {Cs : Nat → Addr}
theorem ok_is {f fP fF fG fS : Addr} {fd dP dF dG : FuncData} (F : Fun K "_law_is_so" "_law_is_so" sIs f fd) (Z : Blt mg) (zA : mg "all" = none) (Nf : NodeF K C) (Nc : NodeC K C fG fS) (GT : FnOk P w K mg base CX0 1 fG dG ["self", "at"] (spGet C)) (bG : Binds K dG ["self", "at"] [])
    (FD : FnOk P w K mg base CX0 3 fF dF ["_law_kind"] spFd) (bF : Binds K dF ["_law_kind"] []) (kF : PySem.W.keepIn K (.ref fF) = true) (mFd : mg "_law_fields" = some (.ref fF)) {n k : Nat} (hk : 3 ≤ k)
    (IP : FnOk P w K mg base CX0 k fP dP ["_law_found", "_law_part_here"] (spIp C Cs n)) (bP : Binds K dP ["_law_found", "_law_part_here"] []) (kP : PySem.W.keepIn K (.ref fP) = true) (mP : mg "_law_is_part" = some (.ref fP)) : FnOk P w K mg base CX0 (k + 1) f fd ["_law_node_here", "_law_model_here"] (spIs C Cs n) := by
  refine F.ok scIs (fun vs H Q E h => ?_) (fun cdv A outer s H us Q E hr h => ?_)
  · obtain ⟨nd, m, v, rfl, _⟩ := h
    rfl
  obtain ⟨nd, m, v, rfl, hmd, hm, hs, hh, q⟩ := h
  have hr3 := hr.mono hk
  have hr1 := hr.mono (show 2 ≤ k by omega)
  have hrE := hr.mono (show 0 + 1 ≤ k by omega)
  have ixl : ∀ X : Cx, X.K = K → IxR X (rIxL K) := fun X e => e ▸ ix_list
  refine ⟨_, (C8.pss_cut (ps_if (pt_cmpR op_ne (pe_fld (pv 0) rfl) (pe_dget (hu_of hr) (pv 1) pe_str (fun _ _ => rfl)) (nomark _)) (pss_one (ps_ret pe_bl)) pss_nil)
    (C8.pss_cut (ps_set (i := 2) scIs.nd rfl (.inl rfl) (pe_lst (pa_cons (pe_fld (pv 0) rfl) (pa_cons (pe_fld (pv 0) rfl) (pa_cons (pe_fld (pv 0) rfl) (pa_cons (pe_fld (pv 0) rfl) pa_nil))))))
    (C8.pss_cut (ps_set (i := 3) scIs.nd rfl (.inr rfl) (pe_lc (own := [("_law_name", 5), ("_law_what", 6)]) (g := gTup K 2 (gCons (gName 5) (gCons (gName 6) (gNil)))) (tt := tYes) rfl scIs.nd (pi_list (pe_call FD hr3 rfl mFd kF bF .nil pass0 (pa_cons (pe_dget (hu_of hr) (pv 1) pe_str (fun _ _ => rfl)) pa_nil))) (blkOk_by (own := [("_law_name", 5), ("_law_what", 6)]) (N := ["_law_node_here", "_law_model_here", "_law_spot_here", "_law_names", "_law_pairs", "_law_name", "_law_what", "_law_k", "_law_one", "_law_two"]) (sc := (defScope sIs)) (by decide +kernel)) (fun _ _ _ _ _ => (pg_tup (by rfl) (pgs_cons (pg_name (i := 5) scIs.nd rfl (.inl rfl)) (pgs_cons (pg_name (i := 6) scIs.nd rfl (.inl rfl)) pgs_nil)))) (fun _ _ _ _ _ => pts_nil) (fun _ _ _ _ _ => (pv 5))))
    (C8.pss_cut (ps_setLc (i := 4) (own := [("_law_k", 7)]) (g := gName 7) (tt := tYes) rfl scIs.nd rfl rfl (sw_true rfl rfl rfl (by decide +kernel)) (pi_range1 (by rfl) Z.rg (pa_cons (pe_callB call_len_seq rfl Z.ln PySem.boot_len (pa_cons (pv 3) pa_nil)) pa_nil)) (blkOk_by (own := [("_law_k", 7)]) (N := ["_law_node_here", "_law_model_here", "_law_spot_here", "_law_names", "_law_pairs", "_law_name", "_law_what", "_law_k", "_law_one", "_law_two"]) (sc := (defScope sIs)) (by decide +kernel)) (fun _ _ _ _ _ => (pg_name (i := 7) scIs.nd rfl (.inl rfl))) (fun _ _ _ _ _ => pts_nil) (fun _ _ _ _ _ => (pe_tup (pa_cons (ixnK (K := K) rfl Nc GT bG hr1 (pv 0) (pe_ix (ixl _ rfl) (pv 3) (pv 7) (fun _ _ => rfl))) (pa_cons (pe_ix (ixl _ rfl) (pe_dget (hu_of hr) (pv 1) pe_str (fun _ _ => rfl)) (pv 7) (fun _ _ => rfl)) pa_nil)))))
    (pss_one (ps_ret (pe_and (pe_cmpR (op_eqG (rcG_list mon_flat eqG_flat) hrE) (pv 2) (pe_dget (hu_of hr) (pv 1) pe_str (fun _ _ => rfl)) (nomark _)) (pe_one (pe_callB (cr_all rfl) (by rfl) zA (by decide +kernel) (pa_cons (pe_lc (own := [("_law_one", 8), ("_law_two", 9)]) (g := gTup K 2 (gCons (gName 8) (gCons (gName 9) (gNil)))) (tt := tYes) rfl scIs.nd (pi_list (pv 4)) (blkOk_by (own := [("_law_one", 8), ("_law_two", 9)]) (N := ["_law_node_here", "_law_model_here", "_law_spot_here", "_law_names", "_law_pairs", "_law_name", "_law_what", "_law_k", "_law_one", "_law_two"]) (sc := (defScope sIs)) (by decide +kernel)) (fun _ _ _ _ _ => (pg_tup (by rfl) (pgs_cons (pg_name (i := 8) scIs.nd rfl (.inl rfl)) (pgs_cons (pg_name (i := 9) scIs.nd rfl (.inl rfl)) pgs_nil)))) (fun _ _ _ _ _ => pts_nil) (fun _ _ _ _ _ => (pe_call IP hr rfl mP kP bP .nil pass0 (pa_cons (pv 8) (pa_cons (pv 9) pa_nil))))) pa_nil)))))))))), ?_⟩
  cases hs with
  | at_ => cases hmd
  | ls _ _ => cases hmd
  | tu _ _ => cases hmd
  | @md d pl sp p dx dn kd ps rs mm vs g1 g2 g3 row hvl g6 sl =>
  have hm0 := hm
  cases hm with
  | @md _ _ _ _ _ sx h1 h2 h3 h4 h5 h6 h7 h8 =>
  rw [hgt_md] at hh
  rw [g6] at h3
  obtain rfl := HO.lst.inj (Option.some.inj h3)
  have zS : (1000 : Nat) ≤ sizeLine := by decide
  obtain ⟨okr, same⟩ := fields_row row
  have rl := sameRow_len same
  have hs7 := rows_small row
  have hnn := rows_nodup row
  have nl : (namesOf rs).length = rs.length := by unfold namesOf; rw [List.length_map]
  have lps : ps.length = rs.length := by omega
  have gk : ∀ {Hx : Hp}, Same H Hx → DGet Hx d (.str "kind") (some (.str kd)) := fun s => by
    have z := DGet.k (k := Sum.inr "kind") (s _ _ h1)
    rw [show valV (mdKv kd pl sp (nd d)) (Sum.inr "kind") = some (V.str kd) from by unfold mdKv; cases nd d <;> rfl] at z
    exact z
  have gs : ∀ {Hx : Hp}, Same H Hx → DGet Hx d (.str "spot") (some (.ref sp)) := fun s => by
    have z := DGet.k (k := Sum.inr "spot") (s _ _ h1)
    rw [show valV (mdKv kd pl sp (nd d)) (Sum.inr "spot") = some (V.ref sp) from by unfold mdKv; cases nd d <;> rfl] at z
    exact z
  have gp : ∀ {Hx : Hp}, Same H Hx → DGet Hx d (.str "parts") (some (.ref pl)) := fun s => by
    have z := DGet.k (k := Sum.inr "parts") (s _ _ h1)
    rw [show valV (mdKv kd pl sp (nd d)) (Sum.inr "parts") = some (V.ref pl) from by unfold mdKv; cases nd d <;> rfl] at z
    exact z
  refine ⟨fun σ H1 => σ = [some (.ref p), some (.ref d), none, none, none, none, none, none, none, none] ∧ H = H1, ?_, ?_⟩
  · refine ⟨_, rfl, p, C, dx, _, .str kd, rfl, g2, Nf.cl, Nf.n1, rfl, _, rfl, d, _, rfl, gk (Same.refl H), rfl, _, rfl, ?_⟩
    rw [show (!decide (V.str kd = V.str kd)) = false from by simp]
    exact iteF ⟨rfl, rfl⟩
  rintro σ H1 ⟨rfl, rfl⟩
  refine ⟨fun σ H1 => ∃ ls, σ = [some (.ref p), some (.ref d), some (.ref ls), none, none, none, none, none, none, none] ∧ Same H H1 ∧ H1 ls = some (.lst [atV mm "lineno", atV mm "col_offset", atV mm "end_lineno", atV mm "end_col_offset"]), ?_, ?_⟩
  · refine ⟨_, rfl, p, C, dx, _, _, rfl, g2, Nf.cl, Nf.n2, rfl, _, rfl, p, C, dx, _, _, rfl, g2, Nf.cl, Nf.n3, rfl, _, rfl, p, C, dx, _, _, rfl, g2, Nf.cl, Nf.n4, rfl, _, rfl, p, C, dx, _, _, rfl, g2, Nf.cl, Nf.n5, rfl, by show 4 ≤ sizeLine; decide, fun ls nls => ?_⟩
    exact ⟨ls, rfl, same_new nls, upd_same⟩
  rintro σ H1 ⟨ls, rfl, s1, hls⟩
  -- the names
  refine ⟨fun σ H2 => ∃ ln, σ = [some (.ref p), some (.ref d), some (.ref ls), some (.ref ln), none, none, none, none, none, none] ∧ Same H1 H2 ∧ H2 ln = some (.lst ((namesOf rs).map V.str)), ?_, ?_⟩
  · refine ⟨_, rfl, d, _, rfl, gk s1, kd, rfl, okr, fun H2 fl s2 fa => ?_⟩
    obtain ⟨nfl, as, hfl, las, hat⟩ := fa
    refine ⟨fl, rfl, ⟨_, SqL.of hfl⟩, fun D nD => ?_⟩
    refine lc_list (K := K) (a := fl) (xs := as.map V.ref) (fun j H3 => Same H2 H3 ∧ H3 D = some (.lst (((namesOf rs).take j).map V.str))) ⟨same_new nD, upd_same⟩ (fun j H3 _ ⟨s3, _⟩ => SqL.of (s3 _ _ hfl)) ?_ ?_
    · rintro j x H3 hx ⟨s3, h3⟩
      rw [List.getElem?_map] at hx
      obtain ⟨b, hb, rfl⟩ := Option.map_eq_some_iff.mp hx
      have hj := (List.getElem?_eq_some_iff.mp hb).1
      obtain ⟨fp, hfp⟩ : ∃ fp, (fieldsP kd)[j]? = some fp := ⟨_, List.getElem?_eq_getElem (by omega)⟩
      obtain ⟨nb, hb3⟩ := hat j b fp hb hfp
      obtain ⟨nm, hd', r, rfl, hr', enm⟩ := sameRow_at same hfp
      have hnm : (namesOf rs)[j]? = some nm := by
        unfold namesOf
        rw [List.getElem?_map, hr', ← enm]
        rfl
      refine ⟨b, _, rfl, SqT.of (s3 _ _ hb3), rfl, _, _, rfl, _, _, rfl, rfl, rfl, ?_⟩
      unfold tYes
      refine iteT ?_
      refine ⟨_, rfl, _, h3, ?_, fun c o e => ?_, ?_⟩
      · rw [List.length_map, List.length_take]
        omega
      · rw [upd_ne (ne_of_none e nD)]
        exact s3 _ _ e
      · rw [upd_same, List.take_succ, hnm, List.map_append]
        rfl
    · rintro H3 ⟨s3, h3⟩
      rw [List.length_map, show as.length = (namesOf rs).length by omega, List.take_length] at h3
      exact ⟨D, rfl, s2.trans s3, h3⟩
  rintro σ H2 ⟨ln, rfl, s12, hln⟩
  have s2 := s1.trans s12
  -- the pairs
  refine ⟨fun σ H3 => ∃ (lp : Addr) (ts : List Addr), σ = [some (.ref p), some (.ref d), some (.ref ls), some (.ref ln), some (.ref lp), none, none, none, none, none] ∧ Same H2 H3 ∧ H3 lp = some (.lst (ts.map V.ref)) ∧ ts.length = rs.length ∧ ∀ (i : Nat) t v mi, ts[i]? = some t → vs[i]? = some v → ps[i]? = some mi → H3 t = some (.tup [v, mi.val]), ?_, ?_⟩
  · refine ⟨_, rfl, ln, _, rfl, .inl (SqL.of hln), _, rfl, by rw [List.length_map]; omega, by rw [List.length_map]; omega, fun D nD => ?_⟩
    have lnn : (((namesOf rs).map V.str).length : Int).toNat = rs.length := by rw [List.length_map]; omega
    refine lc_range (lo := 0) (n := (((namesOf rs).map V.str).length : Int).toNat) (fun j H3 => ∃ ts : List Addr, Same H2 H3 ∧ H3 D = some (.lst (ts.map V.ref)) ∧ ts.length = j ∧ ∀ (i : Nat) t v mi, ts[i]? = some t → vs[i]? = some v → ps[i]? = some mi → H3 t = some (.tup [v, mi.val])) ⟨[], same_new nD, upd_same, rfl, fun i t v mi e => by simp at e⟩ ?_ ?_
    · rintro j H3 hj ⟨ts, s3, h3, lts, hts⟩
      rw [lnn] at hj
      obtain ⟨nm, hnm⟩ : ∃ nm, (namesOf rs)[j]? = some nm := ⟨_, List.getElem?_eq_getElem (by omega)⟩
      obtain ⟨v, hv⟩ : ∃ v, vs[j]? = some v := ⟨_, List.getElem?_eq_getElem (by omega)⟩
      obtain ⟨mi, hmi⟩ : ∃ mi, ps[j]? = some mi := ⟨_, List.getElem?_eq_getElem (by omega)⟩
      have sx := s2.trans s3
      have a1 : atI ((namesOf rs).map V.str) (0 + (j : Int)) = some (.str nm) := by
        rw [show (0 + (j : Int)) = (j : Int) by omega]
        exact atI_nat (by rw [List.getElem?_map, hnm]; rfl)
      have a2 : atI (ps.map MT.val) (0 + (j : Int)) = some mi.val := by
        rw [show (0 + (j : Int)) = (j : Int) by omega]
        exact atI_nat (by rw [List.getElem?_map, hmi]; rfl)
      refine ⟨rfl, ?_⟩
      unfold tYes
      refine iteT ?_
      refine ⟨_, rfl, _, rfl, _, rfl, ln, _, _, _, rfl, rfl, SqL.of (s3 _ _ hln), a1, p, dx, dn, nm, _, _, v, rfl, rfl, sx _ _ g2, rfl, sx _ _ g3, valV_fkv hnn hnm hv, ?_⟩
      refine ⟨_, rfl, d, _, rfl, gp sx, _, rfl, pl, _, _, _, rfl, rfl, SqL.of (sx _ _ h2), a2, by show 2 ≤ sizeLine; decide, fun t nt => ?_⟩
      have s4 := same_new (o := .tup [v, mi.val]) nt
      have nDt : D ≠ t := ne_of_none h3 nt
      refine ⟨_, s4 _ _ h3, ?_, ts ++ [t], fun c o e => ?_, ?_, ?_, fun i t' v' mi' e1 e2 e3 => ?_⟩
      · rw [List.length_map]
        omega
      · rw [upd_ne (ne_of_none e nD)]
        exact s4 _ _ (s3 _ _ e)
      · rw [upd_same, List.map_append]
        rfl
      · rw [List.length_append, lts]
        rfl
      · by_cases hi : i < ts.length
        · rw [List.getElem?_append_left hi] at e1
          have z := hts i t' v' mi' e1 e2 e3
          rw [upd_ne fun y => by rw [y, h3] at z; cases z]
          exact s4 _ _ z
        · have en : i = ts.length := by
            have z := (List.getElem?_eq_some_iff.mp e1).1
            rw [List.length_append, List.length_singleton] at z
            omega
          subst en
          rw [List.getElem?_append_right (Nat.le_refl _), Nat.sub_self] at e1
          rw [lts, hv] at e2
          rw [lts, hmi] at e3
          cases e1
          cases e2
          cases e3
          rw [upd_ne nDt.symm]
          exact upd_same
    · rintro H3 ⟨ts, s3, h3, lts, hts⟩
      rw [lnn] at lts
      exact ⟨D, ts, rfl, s3, h3, lts, hts⟩
  rintro σ H3 ⟨lp, ts, rfl, s23, hlp, lts, hts⟩
  have s3 := s2.trans s23
  refine ⟨_, rfl, _, rfl, d, _, rfl, gs s3, ⟨⟨ls, sp, _, _, rfl, rfl, s23 _ _ (s12 _ _ hls), s3 _ _ g6, rfl, fun i x y e1 e2 => ?_⟩, fun H4 s4 => ⟨_, rfl, iteT ?_⟩⟩⟩
  · rw [e1] at e2
    cases e2
    exact num_flat (h5 _ (List.mem_of_getElem? e1))
  have s04 := s3.trans s4
  refine ⟨_, rfl, lp, rfl, ⟨_, SqL.of (s4 _ _ hlp)⟩, fun D nD => ?_⟩
  refine lc_list (K := K) (a := lp) (xs := ts.map V.ref) (fun j H5 => Same H4 H5 ∧ H5 D = some (.lst ((List.replicate j true).map V.bl))) ⟨same_new nD, upd_same⟩ (fun j H5 _ ⟨s5, _⟩ => SqL.of (s5 _ _ (s4 _ _ hlp))) ?_ ?_
  · rintro j x H5 hx ⟨s5, h5'⟩
    rw [List.getElem?_map] at hx
    obtain ⟨t, ht, rfl⟩ := Option.map_eq_some_iff.mp hx
    have hj := (List.getElem?_eq_some_iff.mp ht).1
    obtain ⟨v, hv⟩ : ∃ v, vs[j]? = some v := ⟨_, List.getElem?_eq_getElem (by omega)⟩
    obtain ⟨mi, hmi⟩ : ∃ mi, ps[j]? = some mi := ⟨_, List.getElem?_eq_getElem (by omega)⟩
    have s35 : Same H3 H5 := Same.trans s4 s5
    refine ⟨t, _, rfl, SqT.of (s35 _ _ (hts j t v mi ht hv hmi)), rfl, _, _, rfl, _, _, rfl, rfl, rfl, ?_⟩
    unfold tYes
    refine iteT ?_
    have hmA := h8.mem mi (List.mem_of_getElem? hmi)
    have hgi := hgtL_at hmi
    refine ⟨_, rfl, _, rfl, nd, mi, v, rfl, hmA.up (s3.trans s35), (sl.get hmi hv).same hmA (s3.trans s35), by omega, fun H6 s6 => ?_⟩
    refine ⟨_, s6 _ _ h5', ?_, fun c o e => ?_, ?_⟩
    · rw [List.length_map, List.length_replicate]
      omega
    · rw [upd_ne (ne_of_none e nD)]
      exact s6 _ _ (s5 _ _ e)
    · rw [upd_same, List.replicate_succ', List.map_append]
      rfl
  · rintro H5 ⟨s5, h5'⟩
    refine ⟨D, _, rfl, SqL.of h5', ?_⟩
    rw [show ((List.replicate (ts.map V.ref).length true).all id) = true from by simp]
    exact q H5 (Same.trans s04 s5)
end
/-! ### models of any height -/
theorem no_ip {P : Program} {w : World} {K : PySem.W.Frag} {mg : Str → Option Value} {base : Heap} {C : Addr} {Cs : Nat → Addr} {f : Addr} {fd : FuncData} {k : Nat} {ps : List Str} : FnOk P w K mg base CX0 k f fd ps (spIp C Cs 0) := by
  have no : ∀ vs H Q E, ¬ spIp C Cs 0 vs H Q E := fun vs H Q E h => by
    obtain ⟨nd, m, v, _, _, _, h1, _⟩ := h
    omega
  exact ⟨fun vs H Q E h => absurd h (no vs H Q E), fun A outer s H args us vs Q E _ _ _ _ h => absurd h (no vs H Q E)⟩
end M4

namespace M4
open PySem PySem.Spec PyProof.Rows L2 StX TL
/-! ### a list of a model holds other things -/
mutual
/-- in m the list at a (of parts, of items) holds ys instead of xs: then it is m' -/
inductive Chg (a : Addr) (xs ys : List MT) : MT → MT → Prop
  | md {d sp : Addr} {k : Str} : ys.length = xs.length → Chg a xs ys (.md d a sp k xs) (.md d a sp k ys)
  | ls : ys.length ≤ 100 → Chg a xs ys (.ls a xs) (.ls a ys)
  | mdIn {d pl sp : Addr} {k : Str} {ps qs : List MT} : ChgL a xs ys ps qs → Chg a xs ys (.md d pl sp k ps) (.md d pl sp k qs)
  | lsIn {b : Addr} {ps qs : List MT} : ChgL a xs ys ps qs → Chg a xs ys (.ls b ps) (.ls b qs)
  | tuIn {b : Addr} {ps qs : List MT} : ChgL a xs ys ps qs → Chg a xs ys (.tu b ps) (.tu b qs)
inductive ChgL (a : Addr) (xs ys : List MT) : List MT → List MT → Prop
  | here {m m' : MT} {r : List MT} : Chg a xs ys m m' → ChgL a xs ys (m :: r) (m' :: r)
  | there {m : MT} {r r' : List MT} : ChgL a xs ys r r' → ChgL a xs ys (m :: r) (m :: r')
end
section
variable {Cs : Nat → Addr} {nd : Addr → Option Addr} {H : Hp} {a : Addr} {xs ys : List MT} {o : HO} {us : List V}
theorem Chg.val {m m' : MT} (h : Chg a xs ys m m') : m'.val = m.val := by cases h <;> rfl
theorem ChgL.vals : ∀ {ps qs : List MT}, ChgL a xs ys ps qs → qs.map MT.val = ps.map MT.val
  | _, _, .here h => by rw [List.map_cons, List.map_cons, h.val]
  | _, _, .there h => by rw [List.map_cons, List.map_cons, h.vals]
theorem ChgL.len {ps qs : List MT} (h : ChgL a xs ys ps qs) : qs.length = ps.length := by
  have z := congrArg List.length h.vals
  rwa [List.length_map, List.length_map] at z
mutual
theorem Chg.in_ : ∀ {m m' : MT}, Chg a xs ys m m' → a ∈ m.lsa
  | _, _, .md _ => by rw [lsa_md]; exact List.mem_cons_self ..
  | _, _, .ls _ => by rw [lsa_ls]; exact List.mem_cons_self ..
  | _, _, .mdIn h => by rw [lsa_md]; exact List.mem_cons_of_mem _ (List.mem_cons_of_mem _ h.in_)
  | _, _, .lsIn h => by rw [lsa_ls]; exact List.mem_cons_of_mem _ h.in_
  | _, _, .tuIn h => by rw [lsa_tu]; exact h.in_
theorem ChgL.in_ : ∀ {ps qs : List MT}, ChgL a xs ys ps qs → a ∈ lsaL ps
  | _, _, .here h => by rw [lsaL_cons]; exact List.mem_append_left _ h.in_
  | _, _, .there h => by rw [lsaL_cons]; exact List.mem_append_right _ h.in_
end
/-- elsewhere nothing is changed -/
theorem upd_i {b c : Addr} {u w : HO} (hb : H b = some (.lst us)) (e : H c = some u) (n : ∀ vs, u ≠ .lst vs) : upd H b w c = some u := by
  rw [upd_ne fun z => by rw [z, hb] at e; exact n _ (Option.some.inj e).symm]
  exact e
mutual
theorem MAt.off (ha : H a = some (.lst us)) : ∀ {m : MT}, MAt Cs nd H m → a ∉ m.lsa → MAt Cs nd (upd H a o) m
  | _, .md h1 h2 h3 h4 h5 h6 h7 h8, n => by
    rw [lsa_md] at n
    have n1 := fun z => n (List.mem_cons.mpr (.inl z))
    have n2 := fun z => n (List.mem_cons_of_mem _ (List.mem_cons.mpr (.inl z)))
    have n3 := fun z => n (List.mem_cons_of_mem _ (List.mem_cons_of_mem _ z))
    exact .md (upd_i ha h1 fun _ z => by cases z) (by rw [upd_ne (Ne.symm n1)]; exact h2) (by rw [upd_ne (Ne.symm n2)]; exact h3) h4 h5 h6 h7 (h8.off ha n3)
  | _, .at_ h, _ => .at_ (h.map fun b u i e => upd_i ha e fun _ z => by rw [z] at i; cases i)
  | _, .ls h1 h2 h3, n => by
    rw [lsa_ls] at n
    exact .ls (by rw [upd_ne fun z => n (List.mem_cons.mpr (.inl z.symm))]; exact h1) h2 (h3.off ha fun z => n (List.mem_cons_of_mem _ z))
  | _, .tu h1 h2 h3, n => by
    rw [lsa_tu] at n
    exact .tu (upd_i ha h1 fun _ z => by cases z) h2 (h3.off ha n)
theorem MAtL.off (ha : H a = some (.lst us)) : ∀ {ms : List MT}, MAtL Cs nd H ms → a ∉ lsaL ms → MAtL Cs nd (upd H a o) ms
  | _, .nil, _ => .nil
  | _, .cons h hs, n => by
    rw [lsaL_cons] at n
    exact .cons (h.off ha fun z => n (List.mem_append_left _ z)) (hs.off ha fun z => n (List.mem_append_right _ z))
end
mutual
theorem MAt.chg (ha : H a = some (.lst us)) (hy : MAtL Cs nd (upd H a (.lst (ys.map MT.val))) ys) : ∀ {m m' : MT}, Chg a xs ys m m' → MAt Cs nd H m → m.lsa.Nodup → MAt Cs nd (upd H a (.lst (ys.map MT.val))) m'
  | _, _, .md hl, .md h1 h2 h3 h4 h5 h6 h7 h8, n => by
    rw [lsa_md, List.nodup_cons] at n
    exact .md (upd_i ha h1 fun _ z => by cases z) upd_same (by rw [upd_ne fun z => n.1 (List.mem_cons.mpr (.inl z.symm))]; exact h3) h4 h5 h6 (hl.trans h7) hy
  | _, _, .ls hl, .ls h1 h2 h3, n => .ls upd_same hl hy
  | _, _, .mdIn c, .md h1 h2 h3 h4 h5 h6 h7 h8, n => by
    rw [lsa_md, List.nodup_cons, List.nodup_cons] at n
    have m1 := c.in_
    refine .md (upd_i ha h1 fun _ z => by cases z) ?_ ?_ h4 h5 h6 (c.len.trans h7) (MAtL.chg ha hy c h8 n.2.2)
    · rw [upd_ne fun z => n.1 (List.mem_cons_of_mem _ (by rw [z]; exact m1)), c.vals]; exact h2
    · rw [upd_ne fun z => n.2.1 (by rw [z]; exact m1)]; exact h3
  | _, _, .lsIn c, .ls h1 h2 h3, n => by
    rw [lsa_ls, List.nodup_cons] at n
    refine .ls ?_ (c.len ▸ h2) (MAtL.chg ha hy c h3 n.2)
    rw [upd_ne fun z => n.1 (by rw [z]; exact c.in_), c.vals]; exact h1
  | _, _, .tuIn c, .tu h1 h2 h3, n => by
    rw [lsa_tu] at n
    refine .tu ?_ (c.len ▸ h2) (MAtL.chg ha hy c h3 n)
    rw [c.vals]
    exact upd_i ha h1 fun _ z => by cases z
theorem MAtL.chg (ha : H a = some (.lst us)) (hy : MAtL Cs nd (upd H a (.lst (ys.map MT.val))) ys) : ∀ {ps qs : List MT}, ChgL a xs ys ps qs → MAtL Cs nd H ps → (lsaL ps).Nodup → MAtL Cs nd (upd H a (.lst (ys.map MT.val))) qs
  | _, _, .here c, .cons h hs, n => by
    rw [lsaL_cons, List.nodup_append] at n
    exact .cons (MAt.chg ha hy c h n.1) (hs.off ha fun z => n.2.2 _ c.in_ _ z rfl)
  | _, _, .there c, .cons h hs, n => by
    rw [lsaL_cons, List.nodup_append] at n
    exact .cons (h.off ha fun z => n.2.2 _ z _ c.in_ rfl) (MAtL.chg ha hy c hs n.2.1)
end
mutual
/-- what stood there is within -/
theorem Chg.old : ∀ {m m' : MT}, Chg a xs ys m m' → ∀ b ∈ lsaL xs, b ∈ m.lsa
  | _, _, .md _, b, hb => by rw [lsa_md]; exact List.mem_cons_of_mem _ (List.mem_cons_of_mem _ hb)
  | _, _, .ls _, b, hb => by rw [lsa_ls]; exact List.mem_cons_of_mem _ hb
  | _, _, .mdIn c, b, hb => by rw [lsa_md]; exact List.mem_cons_of_mem _ (List.mem_cons_of_mem _ (c.old b hb))
  | _, _, .lsIn c, b, hb => by rw [lsa_ls]; exact List.mem_cons_of_mem _ (c.old b hb)
  | _, _, .tuIn c, b, hb => by rw [lsa_tu]; exact c.old b hb
theorem ChgL.old : ∀ {ps qs : List MT}, ChgL a xs ys ps qs → ∀ b ∈ lsaL xs, b ∈ lsaL ps
  | _, _, .here c, b, hb => by rw [lsaL_cons]; exact List.mem_append_left _ (c.old b hb)
  | _, _, .there c, b, hb => by rw [lsaL_cons]; exact List.mem_append_right _ (c.old b hb)
end
mutual
/-- the lists then -/
theorem Chg.lsa (ny : (lsaL ys).Nodup) : ∀ {m m' : MT}, Chg a xs ys m m' → m.lsa.Nodup → (∀ b ∈ lsaL ys, b ∈ lsaL xs ∨ b ∉ m.lsa) → m'.lsa.Nodup ∧ ∀ b ∈ m'.lsa, b ∈ m.lsa ∨ b ∈ lsaL ys
  | _, _, .md _, n, d => by
    rw [lsa_md] at n d ⊢
    rw [lsa_md]
    rw [List.nodup_cons, List.nodup_cons] at n
    have nx : ∀ b ∈ lsaL ys, b ≠ a := fun b hb z => by
      rcases d b hb with y | y
      · rw [z] at y
        exact n.1 (List.mem_cons_of_mem _ y)
      · exact y (List.mem_cons.mpr (.inl z))
    refine ⟨?_, fun b hb => ?_⟩
    · rw [List.nodup_cons, List.nodup_cons]
      refine ⟨fun z => ?_, fun z => ?_, ny⟩
      · rcases List.mem_cons.mp z with z | z
        · exact n.1 (List.mem_cons.mpr (.inl z))
        · exact nx _ z rfl
      · rcases d _ z with y | y
        · exact n.2.1 y
        · exact y (List.mem_cons_of_mem _ (List.mem_cons_self ..))
    · rcases List.mem_cons.mp hb with rfl | hb
      · exact .inl (List.mem_cons_self ..)
      · rcases List.mem_cons.mp hb with rfl | hb
        · exact .inl (List.mem_cons_of_mem _ (List.mem_cons_self ..))
        · exact .inr hb
  | _, _, .ls _, n, d => by
    rw [lsa_ls] at n d ⊢
    rw [lsa_ls]
    rw [List.nodup_cons] at n
    refine ⟨?_, fun b hb => ?_⟩
    · rw [List.nodup_cons]
      refine ⟨fun z => ?_, ny⟩
      rcases d _ z with y | y
      · exact n.1 y
      · exact y (List.mem_cons_self ..)
    · rcases List.mem_cons.mp hb with rfl | hb
      · exact .inl (List.mem_cons_self ..)
      · exact .inr hb
  | _, _, .mdIn c, n, d => by
    rw [lsa_md] at n d ⊢
    rw [lsa_md]
    rw [List.nodup_cons, List.nodup_cons] at n
    have z := ChgL.lsa ny c n.2.2 fun b hb => (d b hb).imp id fun y w => y (List.mem_cons_of_mem _ (List.mem_cons_of_mem _ w))
    have xin := ChgL.old c
    refine ⟨?_, fun b hb => ?_⟩
    · rw [List.nodup_cons, List.nodup_cons]
      refine ⟨fun w => ?_, fun w => ?_, z.1⟩
      · rcases List.mem_cons.mp w with w | w
        · exact n.1 (List.mem_cons.mpr (.inl w))
        · rcases z.2 _ w with w | w
          · exact n.1 (List.mem_cons_of_mem _ w)
          · rcases d _ w with y | y
            · exact n.1 (List.mem_cons_of_mem _ (xin _ y))
            · exact y (List.mem_cons_self ..)
      · rcases z.2 _ w with w | w
        · exact n.2.1 w
        · rcases d _ w with y | y
          · exact n.2.1 (xin _ y)
          · exact y (List.mem_cons_of_mem _ (List.mem_cons_self ..))
    · rcases List.mem_cons.mp hb with rfl | hb
      · exact .inl (List.mem_cons_self ..)
      · rcases List.mem_cons.mp hb with rfl | hb
        · exact .inl (List.mem_cons_of_mem _ (List.mem_cons_self ..))
        · exact (z.2 _ hb).imp (fun y => List.mem_cons_of_mem _ (List.mem_cons_of_mem _ y)) id
  | _, _, .lsIn c, n, d => by
    rw [lsa_ls] at n d ⊢
    rw [lsa_ls]
    rw [List.nodup_cons] at n
    have z := ChgL.lsa ny c n.2 fun b hb => (d b hb).imp id fun y w => y (List.mem_cons_of_mem _ w)
    refine ⟨?_, fun b hb => ?_⟩
    · rw [List.nodup_cons]
      refine ⟨fun w => ?_, z.1⟩
      rcases z.2 _ w with w | w
      · exact n.1 w
      · rcases d _ w with y | y
        · exact n.1 (ChgL.old c _ y)
        · exact y (List.mem_cons_self ..)
    · rcases List.mem_cons.mp hb with rfl | hb
      · exact .inl (List.mem_cons_self ..)
      · exact (z.2 _ hb).imp (fun y => List.mem_cons_of_mem _ y) id
  | _, _, .tuIn c, n, d => by
    rw [lsa_tu] at n d ⊢
    rw [lsa_tu]
    exact ChgL.lsa ny c n d
theorem ChgL.lsa (ny : (lsaL ys).Nodup) : ∀ {ps qs : List MT}, ChgL a xs ys ps qs → (lsaL ps).Nodup → (∀ b ∈ lsaL ys, b ∈ lsaL xs ∨ b ∉ lsaL ps) → (lsaL qs).Nodup ∧ ∀ b ∈ lsaL qs, b ∈ lsaL ps ∨ b ∈ lsaL ys
  | _, _, .here (m := m) (m' := m') (r := r) c, n, d => by
    rw [lsaL_cons] at n d ⊢
    rw [lsaL_cons]
    rw [List.nodup_append] at n
    have z := Chg.lsa ny c n.1 fun b hb => (d b hb).imp id fun y w => y (List.mem_append_left _ w)
    refine ⟨List.nodup_append.mpr ⟨z.1, n.2.1, fun b hb c' hc e => ?_⟩, fun b hb => ?_⟩
    · subst e
      rcases z.2 _ hb with w | w
      · exact n.2.2 _ w _ hc rfl
      · rcases d _ w with y | y
        · exact n.2.2 _ (Chg.old c _ y) _ hc rfl
        · exact y (List.mem_append_right _ hc)
    · rcases List.mem_append.mp hb with hb | hb
      · exact (z.2 _ hb).imp (fun y => List.mem_append_left _ y) id
      · exact .inl (List.mem_append_right _ hb)
  | _, _, .there (m := m) c, n, d => by
    rw [lsaL_cons] at n d ⊢
    rw [lsaL_cons]
    rw [List.nodup_append] at n
    have z := ChgL.lsa ny c n.2.1 fun b hb => (d b hb).imp id fun y w => y (List.mem_append_right _ w)
    refine ⟨List.nodup_append.mpr ⟨n.1, z.1, fun b hb c' hc e => ?_⟩, fun b hb => ?_⟩
    · subst e
      rcases z.2 _ hc with w | w
      · exact n.2.2 _ hb _ w rfl
      · rcases d _ w with y | y
        · exact n.2.2 _ hb _ (ChgL.old c _ y) rfl
        · exact y (List.mem_append_left _ hb)
    · rcases List.mem_append.mp hb with hb | hb
      · exact .inl (List.mem_append_left _ hb)
      · exact (z.2 _ hb).imp (fun y => List.mem_append_right _ y) id
end
end
end M4

namespace M4
open PySem PySem.Spec PyProof.Rows L2 StX TL
/-! ### the made value is changed where its model is -/
/-- what stands at the changed place: a node's fields, or a list -/
inductive Plc (rs : List (Str × Str × Str)) : Bool → List V → HO → Prop
  | f {us : List V} : us.length = rs.length → Plc rs true us (.dK (fkv (namesOf rs) us))
  | l {us : List V} : Plc rs false us (.lst us)
mutual
/-- the made value's place at e belongs to the model's list at a -/
inductive Lnk (C : Addr) (nd : Addr → Option Addr) (R : Hp) (a : Addr) (xs ys : List MT) (e : Addr) (rs : List (Str × Str × Str)) (b : Bool) (us : List V) : MT → MT → V → Prop
  | md {d sp p dx : Addr} {k : Str} {m : List (Key × V)} : b = true → nd d = some p → R p = some (.ins C dx (nodeFs k m e)) → Fld.lookup k = some rs → Lnk C nd R a xs ys e rs b us (.md d a sp k xs) (.md d a sp k ys) (.ref p)
  | ls : b = false → Lnk C nd R a xs ys e rs b us (.ls a xs) (.ls a ys) (.ref e)
  | mdIn {d pl sp p dx dn : Addr} {k : Str} {ps qs : List MT} {rr : List (Str × Str × Str)} {m : List (Key × V)} {vs : List V} : nd d = some p → R p = some (.ins C dx (nodeFs k m dn)) → R dn = some (.dK (fkv (namesOf rr) vs)) → Fld.lookup k = some rr → vs.length = rr.length →
      LnkL C nd R a xs ys e rs b us ps qs vs → Lnk C nd R a xs ys e rs b us (.md d pl sp k ps) (.md d pl sp k qs) (.ref p)
  | lsIn {c D : Addr} {ps qs : List MT} {vs : List V} : R D = some (.lst vs) → LnkL C nd R a xs ys e rs b us ps qs vs → Lnk C nd R a xs ys e rs b us (.ls c ps) (.ls c qs) (.ref D)
  | tuIn {c D : Addr} {ps qs : List MT} {vs : List V} : R D = some (.tup vs) → LnkL C nd R a xs ys e rs b us ps qs vs → Lnk C nd R a xs ys e rs b us (.tu c ps) (.tu c qs) (.ref D)
inductive LnkL (C : Addr) (nd : Addr → Option Addr) (R : Hp) (a : Addr) (xs ys : List MT) (e : Addr) (rs : List (Str × Str × Str)) (b : Bool) (us : List V) : List MT → List MT → List V → Prop
  | here {m m' : MT} {v : V} {r : List MT} {vs : List V} : Lnk C nd R a xs ys e rs b us m m' v → LnkL C nd R a xs ys e rs b us (m :: r) (m' :: r) (v :: vs)
  | there {m : MT} {v : V} {r r' : List MT} {vs : List V} : LnkL C nd R a xs ys e rs b us r r' vs → LnkL C nd R a xs ys e rs b us (m :: r) (m :: r') (v :: vs)
end
section
variable {C : Addr} {nd : Addr → Option Addr} {S R : Hp} {a e : Addr} {xs ys : List MT} {rs : List (Str × Str × Str)} {b : Bool} {us ws : List V} {o w : HO}
mutual
/-- where the model's place is, the made value's is, too -/
theorem Chg.lnk : ∀ {m m' : MT} {v : V}, Chg a xs ys m m' → So C nd S R m v → ∃ e rs b us o, Lnk C nd R a xs ys e rs b us m m' v ∧ R e = some o ∧ Plc rs b us o ∧ SoL C nd S R xs us
  | _, _, _, .md _, .md h1 h2 h3 h4 h5 h6 hs => ⟨_, _, true, _, _, .md rfl h1 h2 h4, h3, .f h5, hs⟩
  | _, _, _, .ls _, .ls h hs => ⟨_, [], false, _, _, .ls rfl, h, .l, hs⟩
  | _, _, _, .mdIn c, .md h1 h2 h3 h4 h5 h6 hs => by
    obtain ⟨e, rs, b, us, o, l, z⟩ := ChgL.lnk c hs
    exact ⟨e, rs, b, us, o, .mdIn h1 h2 h3 h4 h5 l, z⟩
  | _, _, _, .lsIn c, .ls h hs => by
    obtain ⟨e, rs, b, us, o, l, z⟩ := ChgL.lnk c hs
    exact ⟨e, rs, b, us, o, .lsIn h l, z⟩
  | _, _, _, .tuIn c, .tu h hs => by
    obtain ⟨e, rs, b, us, o, l, z⟩ := ChgL.lnk c hs
    exact ⟨e, rs, b, us, o, .tuIn h l, z⟩
theorem ChgL.lnk : ∀ {ps qs : List MT} {vs : List V}, ChgL a xs ys ps qs → SoL C nd S R ps vs → ∃ e rs b us o, LnkL C nd R a xs ys e rs b us ps qs vs ∧ R e = some o ∧ Plc rs b us o ∧ SoL C nd S R xs us
  | _, _, _, .here c, .cons h hs => by
    obtain ⟨e, rs, b, us, o, l, z⟩ := Chg.lnk c h
    exact ⟨e, rs, b, us, o, .here l, z⟩
  | _, _, _, .there c, .cons h hs => by
    obtain ⟨e, rs, b, us, o, l, z⟩ := ChgL.lnk c hs
    exact ⟨e, rs, b, us, o, .there l, z⟩
end
/-- an address of another kind -/
theorem upd_k {c : Addr} {u : HO} (he : R e = some o) (h : R c = some u) (n : u ≠ o) : upd R e w c = some u := by
  rw [upd_ne fun z => n (by rw [z, he] at h; exact (Option.some.inj h).symm)]
  exact h
theorem Plc.ins {us : List V} {D dx : Addr} {fs : List (Str × V)} (p : Plc rs b us o) : HO.ins D dx fs ≠ o := by cases p <;> exact fun z => by cases z
theorem Plc.tup {us vs : List V} (p : Plc rs b us o) : HO.tup vs ≠ o := by cases p <;> exact fun z => by cases z
mutual
/-- elsewhere nothing is changed -/
theorem So.off (he : R e = some o) (p : Plc rs b us o) : ∀ {m : MT} {v : V} {A : List Addr}, So C nd S R m v → Own C nd R m v A → e ∉ A → So C nd S (upd R e w) m v
  | _, _, _, .at_, _, _ => .at_
  | _, _, _, .ls h hs, .ls k ks, n => by
    rw [h] at k
    cases k
    exact .ls (by rw [upd_ne fun z => n (List.mem_cons.mpr (.inl z.symm))]; exact h) (SoL.off he p hs ks fun z => n (List.mem_cons_of_mem _ z))
  | _, _, _, .tu h hs, .tu k ks, n => by
    rw [h] at k
    cases k
    exact .tu (upd_k he h p.tup) (SoL.off he p hs ks n)
  | _, _, _, .md h1 h2 h3 h4 h5 h6 hs, .md k1 k2 k3 k4 k5 ks, n => by
    rw [h2] at k2
    cases nodeFs_d (HO.ins.inj (Option.some.inj k2)).2.2
    rw [h4] at k4
    cases k4
    rw [h3] at k3
    have lr : ∀ {r : List (Str × Str × Str)}, (namesOf r).length = r.length := fun {r} => by unfold namesOf; rw [List.length_map]
    have z := fkv_inj (h5.trans lr.symm) (k5.trans lr.symm) (HO.dK.inj (Option.some.inj k3))
    subst z
    exact .md h1 (upd_k he h2 p.ins) (by rw [upd_ne fun z => n (List.mem_cons.mpr (.inl z.symm))]; exact h3) h4 h5 h6 (SoL.off he p hs ks fun z => n (List.mem_cons_of_mem _ z))
theorem SoL.off (he : R e = some o) (p : Plc rs b us o) : ∀ {ms : List MT} {vs : List V} {A : List Addr}, SoL C nd S R ms vs → OwnL C nd R ms vs A → e ∉ A → SoL C nd S (upd R e w) ms vs
  | _, _, _, .nil, _, _ => .nil
  | _, _, _, .cons h hs, .cons k ks, n => .cons (So.off he p h k fun z => n (List.mem_append_left _ z)) (SoL.off he p hs ks fun z => n (List.mem_append_right _ z))
end
mutual
theorem Own.off (he : R e = some o) (p : Plc rs b us o) : ∀ {m : MT} {v : V} {A : List Addr}, Own C nd R m v A → e ∉ A → Own C nd (upd R e w) m v A
  | _, _, _, .at_, _ => .at_
  | _, _, _, .ls h hs, n => .ls (by rw [upd_ne fun z => n (List.mem_cons.mpr (.inl z.symm))]; exact h) (OwnL.off he p hs fun z => n (List.mem_cons_of_mem _ z))
  | _, _, _, .tu h hs, n => .tu (upd_k he h p.tup) (OwnL.off he p hs n)
  | _, _, _, .md h1 h2 h3 h4 h5 hs, n => .md h1 (upd_k he h2 p.ins) (by rw [upd_ne fun z => n (List.mem_cons.mpr (.inl z.symm))]; exact h3) h4 h5 (OwnL.off he p hs fun z => n (List.mem_cons_of_mem _ z))
theorem OwnL.off (he : R e = some o) (p : Plc rs b us o) : ∀ {ms : List MT} {vs : List V} {A : List Addr}, OwnL C nd R ms vs A → e ∉ A → OwnL C nd (upd R e w) ms vs A
  | _, _, _, .nil, _ => .nil
  | _, _, _, .cons h hs, n => .cons (Own.off he p h fun z => n (List.mem_append_left _ z)) (OwnL.off he p hs fun z => n (List.mem_append_right _ z))
end
mutual
theorem Lnk.in_ : ∀ {m m' : MT} {v : V} {A : List Addr}, Lnk C nd R a xs ys e rs b us m m' v → Own C nd R m v A → e ∈ A
  | _, _, _, _, .md _ h1 h2 h4, .md k1 k2 k3 k4 k5 ks => by
    rw [h2] at k2
    cases nodeFs_d (HO.ins.inj (Option.some.inj k2)).2.2
    exact List.mem_cons_self ..
  | _, _, _, _, .ls _, .ls k ks => List.mem_cons_self ..
  | _, _, _, _, .mdIn h1 h2 h3 h4 h5 l, .md k1 k2 k3 k4 k5 ks => by
    rw [h2] at k2
    cases nodeFs_d (HO.ins.inj (Option.some.inj k2)).2.2
    rw [h4] at k4
    cases k4
    rw [h3] at k3
    have lr : ∀ {r : List (Str × Str × Str)}, (namesOf r).length = r.length := fun {r} => by unfold namesOf; rw [List.length_map]
    have z := fkv_inj (h5.trans lr.symm) (k5.trans lr.symm) (HO.dK.inj (Option.some.inj k3))
    subst z
    exact List.mem_cons_of_mem _ (LnkL.in_ l ks)
  | _, _, _, _, .lsIn h l, .ls k ks => by
    rw [h] at k
    cases k
    exact List.mem_cons_of_mem _ (LnkL.in_ l ks)
  | _, _, _, _, .tuIn h l, .tu k ks => by
    rw [h] at k
    cases k
    exact LnkL.in_ l ks
theorem LnkL.in_ : ∀ {ps qs : List MT} {vs : List V} {A : List Addr}, LnkL C nd R a xs ys e rs b us ps qs vs → OwnL C nd R ps vs A → e ∈ A
  | _, _, _, _, .here l, .cons k ks => List.mem_append_left _ (Lnk.in_ l k)
  | _, _, _, _, .there l, .cons k ks => List.mem_append_right _ (LnkL.in_ l ks)
end
end
end M4

namespace M4
open PySem PySem.Spec PyProof.Rows L2 StX TL
/-! ### the made value after the change -/
section
variable {C : Addr} {nd : Addr → Option Addr} {S R : Hp} {a e : Addr} {xs ys : List MT} {rs : List (Str × Str × Str)} {b : Bool} {us ws : List V} {o w : HO} {B B0 : List Addr}
theorem names_len {r : List (Str × Str × Str)} : (namesOf r).length = r.length := by unfold namesOf; rw [List.length_map]
/-- the same fields -/
theorem own_vs {dn dn' : Addr} {vs vs' : List V} {rr rr' : List (Str × Str × Str)} {p dx dx' : Addr} {k : Str} {m m' : List (Key × V)} (h2 : R p = some (.ins C dx (nodeFs k m dn))) (h3 : R dn = some (.dK (fkv (namesOf rr) vs))) (h4 : Fld.lookup k = some rr) (h5 : vs.length = rr.length)
    (k2 : R p = some (.ins C dx' (nodeFs k m' dn'))) (k3 : R dn' = some (.dK (fkv (namesOf rr') vs'))) (k4 : Fld.lookup k = some rr') (k5 : vs'.length = rr'.length) : dn = dn' ∧ rr = rr' ∧ vs = vs' := by
  rw [h2] at k2
  cases nodeFs_d (HO.ins.inj (Option.some.inj k2)).2.2
  rw [h4] at k4
  cases k4
  rw [h3] at k3
  exact ⟨rfl, rfl, fkv_inj (h5.trans names_len.symm) (k5.trans names_len.symm) (HO.dK.inj (Option.some.inj k3))⟩
mutual
theorem Lnk.so (he : R e = some o) (p : Plc rs b us o) (q : Plc rs b ws w) (hy : SoL C nd S (upd R e w) ys ws) : ∀ {m m' : MT} {v : V} {A : List Addr}, Lnk C nd R a xs ys e rs b us m m' v → So C nd S R m v → Own C nd R m v A → A.Nodup → So C nd S (upd R e w) m' v
  | _, _, _, _, .md hb h1 h2 h4, .md g1 g2 g3 g4 g5 g6 gs, _, _ => by
    have z := h2
    rw [g2] at z
    have zz := HO.ins.inj (Option.some.inj z)
    cases nodeFs_d zz.2.2
    subst hb
    cases q with
    | f hl => exact .md g1 (upd_k he g2 p.ins) upd_same h4 hl g6 hy
  | _, _, _, _, .ls hb, .ls g gs, _, _ => by
    subst hb
    cases q with
    | l => exact .ls upd_same hy
  | _, _, _, _, .mdIn h1 h2 h3 h4 h5 l, .md g1 g2 g3 g4 g5 g6 gs, .md k1 k2 k3 k4 k5 ks, n => by
    obtain ⟨rfl, rfl, rfl⟩ := own_vs h2 h3 h4 h5 g2 g3 g4 g5
    obtain ⟨rfl, rfl, rfl⟩ := own_vs h2 h3 h4 h5 k2 k3 k4 k5
    rw [List.nodup_cons] at n
    have m1 := LnkL.in_ l ks
    exact .md g1 (upd_k he g2 p.ins) (by rw [upd_ne fun z => n.1 (by rw [z]; exact m1)]; exact g3) g4 g5 g6 (LnkL.so he p q hy l gs ks n.2)
  | _, _, _, _, .lsIn h l, .ls g gs, .ls k ks, n => by
    have g' := g
    rw [h] at g' k
    cases g'
    cases k
    rw [List.nodup_cons] at n
    have m1 := LnkL.in_ l ks
    exact .ls (by rw [upd_ne fun z => n.1 (by rw [z]; exact m1)]; exact g) (LnkL.so he p q hy l gs ks n.2)
  | _, _, _, _, .tuIn h l, .tu g gs, .tu k ks, n => by
    have g' := g
    rw [h] at g' k
    cases g'
    cases k
    exact .tu (upd_k he g p.tup) (LnkL.so he p q hy l gs ks n)
theorem LnkL.so (he : R e = some o) (p : Plc rs b us o) (q : Plc rs b ws w) (hy : SoL C nd S (upd R e w) ys ws) : ∀ {ps qs : List MT} {vs : List V} {A : List Addr}, LnkL C nd R a xs ys e rs b us ps qs vs → SoL C nd S R ps vs → OwnL C nd R ps vs A → A.Nodup → SoL C nd S (upd R e w) qs vs
  | _, _, _, _, .here l, .cons g gs, .cons k ks, n => by
    rw [List.nodup_append] at n
    exact .cons (Lnk.so he p q hy l g k n.1) (SoL.off he p gs ks fun z => n.2.2 _ (Lnk.in_ l k) _ z rfl)
  | _, _, _, _, .there l, .cons g gs, .cons k ks, n => by
    rw [List.nodup_append] at n
    exact .cons (So.off he p g k fun z => n.2.2 _ z _ (LnkL.in_ l ks) rfl) (LnkL.so he p q hy l gs ks n.2.1)
end
mutual
/-- what was its own there -/
theorem Lnk.old (h0 : OwnL C nd R xs us B0) (he : R e = some o) (p : Plc rs b us o) : ∀ {m m' : MT} {v : V} {A : List Addr}, Lnk C nd R a xs ys e rs b us m m' v → Own C nd R m v A → ∀ c ∈ B0, c ∈ A
  | _, _, _, _, .md hb h1 h2 h4, .md k1 k2 k3 k4 k5 ks, c, hc => by
    have z := h2
    rw [k2] at z
    cases nodeFs_d (HO.ins.inj (Option.some.inj z)).2.2
    subst hb
    rw [h4] at k4
    cases k4
    cases p with
    | f hl =>
      rw [he] at k3
      have z := fkv_inj (hl.trans names_len.symm) (k5.trans names_len.symm) (HO.dK.inj (Option.some.inj k3))
      subst z
      rw [h0.same_ ks] at hc
      exact List.mem_cons_of_mem _ hc
  | _, _, _, _, .ls hb, .ls k ks, c, hc => by
    subst hb
    cases p with
    | l =>
      rw [he] at k
      cases k
      rw [h0.same_ ks] at hc
      exact List.mem_cons_of_mem _ hc
  | _, _, _, _, .mdIn h1 h2 h3 h4 h5 l, .md k1 k2 k3 k4 k5 ks, c, hc => by
    obtain ⟨rfl, rfl, rfl⟩ := own_vs h2 h3 h4 h5 k2 k3 k4 k5
    exact List.mem_cons_of_mem _ (LnkL.old h0 he p l ks c hc)
  | _, _, _, _, .lsIn h l, .ls k ks, c, hc => by
    rw [h] at k
    cases k
    exact List.mem_cons_of_mem _ (LnkL.old h0 he p l ks c hc)
  | _, _, _, _, .tuIn h l, .tu k ks, c, hc => by
    rw [h] at k
    cases k
    exact LnkL.old h0 he p l ks c hc
theorem LnkL.old (h0 : OwnL C nd R xs us B0) (he : R e = some o) (p : Plc rs b us o) : ∀ {ps qs : List MT} {vs : List V} {A : List Addr}, LnkL C nd R a xs ys e rs b us ps qs vs → OwnL C nd R ps vs A → ∀ c ∈ B0, c ∈ A
  | _, _, _, _, .here l, .cons k ks, c, hc => List.mem_append_left _ (Lnk.old h0 he p l k c hc)
  | _, _, _, _, .there l, .cons k ks, c, hc => List.mem_append_right _ (LnkL.old h0 he p l ks c hc)
end
mutual
/-- its own things then -/
theorem Lnk.own (he : R e = some o) (p : Plc rs b us o) (q : Plc rs b ws w) (hy : OwnL C nd (upd R e w) ys ws B) (nB : B.Nodup) (h0 : OwnL C nd R xs us B0) : ∀ {m m' : MT} {v : V} {A : List Addr}, Lnk C nd R a xs ys e rs b us m m' v → Own C nd R m v A → A.Nodup → (∀ c ∈ B, c ∈ B0 ∨ c ∉ A) → (∀ c ∈ B0, c ∈ A ∧ c ≠ e) → R e = some o →
    ∃ A', Own C nd (upd R e w) m' v A' ∧ A'.Nodup ∧ ∀ c ∈ A', c ∈ A ∨ c ∈ B
  | _, _, _, _, .md hb h1 h2 h4, .md (A := A0) k1 k2 k3 k4 k5 ks, n, d, d0, _ => by
    have z := h2
    rw [k2] at z
    cases nodeFs_d (HO.ins.inj (Option.some.inj z)).2.2
    subst hb
    cases q with
    | f hl =>
      refine ⟨e :: B, .md k1 (upd_k he k2 p.ins) upd_same h4 hl hy, List.nodup_cons.mpr ⟨fun z => ?_, nB⟩, fun c hc => ?_⟩
      · rcases d e z with y | y
        · exact (d0 e y).2 rfl
        · exact y (List.mem_cons_self ..)
      · rcases List.mem_cons.mp hc with rfl | hc
        · exact .inl (List.mem_cons_self ..)
        · exact .inr hc
  | _, _, _, _, .ls hb, .ls k ks, n, d, d0, _ => by
    subst hb
    cases q with
    | l =>
      refine ⟨e :: B, .ls upd_same hy, List.nodup_cons.mpr ⟨fun z => ?_, nB⟩, fun c hc => ?_⟩
      · rcases d e z with y | y
        · exact (d0 e y).2 rfl
        · exact y (List.mem_cons_self ..)
      · rcases List.mem_cons.mp hc with rfl | hc
        · exact .inl (List.mem_cons_self ..)
        · exact .inr hc
  | _, _, _, _, .mdIn h1 h2 h3 h4 h5 l, .md k1 k2 k3 k4 k5 ks, n, d, d0, _ => by
    obtain ⟨rfl, rfl, rfl⟩ := own_vs h2 h3 h4 h5 k2 k3 k4 k5
    rw [List.nodup_cons] at n
    have m1 := LnkL.in_ l ks
    have i0 := LnkL.old h0 he p l ks
    obtain ⟨A', o1, o2, o3⟩ := LnkL.own he p q hy nB h0 l ks n.2 (fun c hc => (d c hc).imp id fun y z => y (List.mem_cons_of_mem _ z)) (fun c hc => ⟨i0 c hc, (d0 c hc).2⟩) he
    refine ⟨_ :: A', .md k1 (upd_k he k2 p.ins) (by rw [upd_ne fun z => n.1 (by rw [z]; exact m1)]; exact k3) k4 k5 o1, List.nodup_cons.mpr ⟨fun z => ?_, o2⟩, fun c hc => ?_⟩
    · rcases o3 _ z with y | y
      · exact n.1 y
      · rcases d _ y with x | x
        · exact n.1 (i0 _ x)
        · exact x (List.mem_cons_self ..)
    · rcases List.mem_cons.mp hc with rfl | hc
      · exact .inl (List.mem_cons_self ..)
      · exact (o3 c hc).imp (fun y => List.mem_cons_of_mem _ y) id
  | _, _, _, _, .lsIn h l, .ls k ks, n, d, d0, _ => by
    have k' := k
    rw [h] at k'
    cases k'
    rw [List.nodup_cons] at n
    have m1 := LnkL.in_ l ks
    have i0 := LnkL.old h0 he p l ks
    obtain ⟨A', o1, o2, o3⟩ := LnkL.own he p q hy nB h0 l ks n.2 (fun c hc => (d c hc).imp id fun y z => y (List.mem_cons_of_mem _ z)) (fun c hc => ⟨i0 c hc, (d0 c hc).2⟩) he
    refine ⟨_ :: A', .ls (by rw [upd_ne fun z => n.1 (by rw [z]; exact m1)]; exact k) o1, List.nodup_cons.mpr ⟨fun z => ?_, o2⟩, fun c hc => ?_⟩
    · rcases o3 _ z with y | y
      · exact n.1 y
      · rcases d _ y with x | x
        · exact n.1 (i0 _ x)
        · exact x (List.mem_cons_self ..)
    · rcases List.mem_cons.mp hc with rfl | hc
      · exact .inl (List.mem_cons_self ..)
      · exact (o3 c hc).imp (fun y => List.mem_cons_of_mem _ y) id
  | _, _, _, _, .tuIn h l, .tu k ks, n, d, d0, _ => by
    have k' := k
    rw [h] at k'
    cases k'
    have i0 := LnkL.old h0 he p l ks
    obtain ⟨A', o1, o2, o3⟩ := LnkL.own he p q hy nB h0 l ks n d (fun c hc => ⟨i0 c hc, (d0 c hc).2⟩) he
    exact ⟨A', .tu (upd_k he k p.tup) o1, o2, o3⟩
theorem LnkL.own (he : R e = some o) (p : Plc rs b us o) (q : Plc rs b ws w) (hy : OwnL C nd (upd R e w) ys ws B) (nB : B.Nodup) (h0 : OwnL C nd R xs us B0) : ∀ {ps qs : List MT} {vs : List V} {A : List Addr}, LnkL C nd R a xs ys e rs b us ps qs vs → OwnL C nd R ps vs A → A.Nodup → (∀ c ∈ B, c ∈ B0 ∨ c ∉ A) → (∀ c ∈ B0, c ∈ A ∧ c ≠ e) → R e = some o →
    ∃ A', OwnL C nd (upd R e w) qs vs A' ∧ A'.Nodup ∧ ∀ c ∈ A', c ∈ A ∨ c ∈ B
  | _, _, _, _, .here l, .cons (A := A1) (B := B1) k ks, n, d, d0, _ => by
    rw [List.nodup_append] at n
    have i0 := Lnk.old h0 he p l k
    obtain ⟨A', o1, o2, o3⟩ := Lnk.own he p q hy nB h0 l k n.1 (fun c hc => (d c hc).imp id fun y z => y (List.mem_append_left _ z)) (fun c hc => ⟨i0 c hc, (d0 c hc).2⟩) he
    refine ⟨A' ++ B1, .cons o1 (OwnL.off he p ks fun z => n.2.2 _ (Lnk.in_ l k) _ z rfl), List.nodup_append.mpr ⟨o2, n.2.1, fun c hc c' hc' e' => ?_⟩, fun c hc => ?_⟩
    · subst e'
      rcases o3 c hc with y | y
      · exact n.2.2 _ y _ hc' rfl
      · rcases d c y with x | x
        · exact n.2.2 _ (i0 c x) _ hc' rfl
        · exact x (List.mem_append_right _ hc')
    · rcases List.mem_append.mp hc with hc | hc
      · exact (o3 c hc).imp (fun y => List.mem_append_left _ y) id
      · exact .inl (List.mem_append_right _ hc)
  | _, _, _, _, .there l, .cons (A := A1) (B := B1) k ks, n, d, d0, _ => by
    rw [List.nodup_append] at n
    have i0 := LnkL.old h0 he p l ks
    obtain ⟨A', o1, o2, o3⟩ := LnkL.own he p q hy nB h0 l ks n.2.1 (fun c hc => (d c hc).imp id fun y z => y (List.mem_append_right _ z)) (fun c hc => ⟨i0 c hc, (d0 c hc).2⟩) he
    refine ⟨A1 ++ A', .cons (Own.off he p k fun z => n.2.2 _ z _ (LnkL.in_ l ks) rfl) o1, List.nodup_append.mpr ⟨n.1, o2, fun c hc c' hc' e' => ?_⟩, fun c hc => ?_⟩
    · subst e'
      rcases o3 c hc' with y | y
      · exact n.2.2 _ hc _ y rfl
      · rcases d c y with x | x
        · exact n.2.2 _ hc _ (i0 c x) rfl
        · exact x (List.mem_append_left _ hc)
    · rcases List.mem_append.mp hc with hc | hc
      · exact .inl (List.mem_append_left _ hc)
      · exact (o3 c hc).imp (fun y => List.mem_append_right _ y) id
end
end
end M4

namespace M4
open PySem PySem.Spec PyProof.Rows L2 StX TL
/-! ### spots stay -/
mutual
def MT.sps : MT → List Addr
  | .md _ _ sp _ ps => sp :: spsL ps
  | .at_ _ => []
  | .ls _ ps => spsL ps
  | .tu _ ps => spsL ps
def spsL : List MT → List Addr
  | [] => []
  | m :: r => m.sps ++ spsL r
end
theorem sps_md {d pl sp : Addr} {k : Str} {ps : List MT} : (MT.md d pl sp k ps).sps = sp :: spsL ps := by rw [MT.sps]
theorem sps_ls {a : Addr} {ps : List MT} : (MT.ls a ps).sps = spsL ps := by rw [MT.sps]
theorem sps_tu {a : Addr} {ps : List MT} : (MT.tu a ps).sps = spsL ps := by rw [MT.sps]
theorem sps_at {v : V} : (MT.at_ v).sps = [] := by rw [MT.sps]
theorem spsL_nil : spsL [] = [] := by rw [spsL]
theorem spsL_cons {m : MT} {r : List MT} : spsL (m :: r) = m.sps ++ spsL r := by rw [spsL]
mutual
theorem sps_lsa : ∀ (m : MT), ∀ b ∈ m.sps, b ∈ m.lsa
  | .md d pl sp k ps, b, hb => by
    rw [sps_md] at hb
    rw [lsa_md]
    rcases List.mem_cons.mp hb with rfl | hb
    · exact List.mem_cons_of_mem _ (List.mem_cons_self ..)
    · exact List.mem_cons_of_mem _ (List.mem_cons_of_mem _ (spsL_lsa ps b hb))
  | .at_ v, b, hb => by rw [sps_at] at hb; cases hb
  | .ls a ps, b, hb => by
    rw [sps_ls] at hb
    rw [lsa_ls]
    exact List.mem_cons_of_mem _ (spsL_lsa ps b hb)
  | .tu a ps, b, hb => by
    rw [sps_tu] at hb
    rw [lsa_tu]
    exact spsL_lsa ps b hb
theorem spsL_lsa : ∀ (ms : List MT), ∀ b ∈ spsL ms, b ∈ lsaL ms
  | [], b, hb => by rw [spsL_nil] at hb; cases hb
  | m :: r, b, hb => by
    rw [spsL_cons] at hb
    rw [lsaL_cons]
    exact (List.mem_append.mp hb).elim (fun z => List.mem_append_left _ (sps_lsa m b z)) fun z => List.mem_append_right _ (spsL_lsa r b z)
end
section
variable {C : Addr} {Cs : Nat → Addr} {nd : Addr → Option Addr} {K : PySem.W.Frag} {S S' R : Hp} {a : Addr} {xs ys : List MT}
mutual
theorem Chg.spot : ∀ {m m' : MT}, Chg a xs ys m m' → m.lsa.Nodup → a ∉ m.sps
  | _, _, .md _, n => by
    rw [lsa_md, List.nodup_cons] at n
    rw [sps_md]
    exact fun z => n.1 ((List.mem_cons.mp z).elim (fun z => List.mem_cons.mpr (.inl z)) fun z => List.mem_cons_of_mem _ (spsL_lsa _ _ z))
  | _, _, .ls _, n => by
    rw [lsa_ls, List.nodup_cons] at n
    rw [sps_ls]
    exact fun z => n.1 (spsL_lsa _ _ z)
  | _, _, .mdIn c, n => by
    rw [lsa_md, List.nodup_cons, List.nodup_cons] at n
    rw [sps_md]
    intro z
    rcases List.mem_cons.mp z with z | z
    · exact n.2.1 (z ▸ c.in_)
    · exact ChgL.spot c n.2.2 z
  | _, _, .lsIn c, n => by
    rw [lsa_ls, List.nodup_cons] at n
    rw [sps_ls]
    exact ChgL.spot c n.2
  | _, _, .tuIn c, n => by
    rw [lsa_tu] at n
    rw [sps_tu]
    exact ChgL.spot c n
theorem ChgL.spot : ∀ {ps qs : List MT}, ChgL a xs ys ps qs → (lsaL ps).Nodup → a ∉ spsL ps
  | _, _, .here c, n => by
    rw [lsaL_cons, List.nodup_append] at n
    rw [spsL_cons]
    intro z
    rcases List.mem_append.mp z with z | z
    · exact Chg.spot c n.1 z
    · exact n.2.2 _ c.in_ _ (spsL_lsa _ _ z) rfl
  | _, _, .there c, n => by
    rw [lsaL_cons, List.nodup_append] at n
    rw [spsL_cons]
    intro z
    rcases List.mem_append.mp z with z | z
    · exact n.2.2 _ (sps_lsa _ _ z) _ c.in_ rfl
    · exact ChgL.spot c n.2.1 z
end
mutual
theorem So.mapS : ∀ {m : MT} {v : V}, So C nd S R m v → (∀ s ∈ m.sps, ∀ o, S s = some o → S' s = some o) → So C nd S' R m v
  | _, _, .at_, _ => .at_
  | _, _, .ls h hs, e => .ls h (SoL.mapS hs (by rw [sps_ls] at e; exact e))
  | _, _, .tu h hs, e => .tu h (SoL.mapS hs (by rw [sps_tu] at e; exact e))
  | _, _, .md h1 h2 h3 h4 h5 h6 hs, e => .md h1 h2 h3 h4 h5 (e _ (by rw [sps_md]; exact List.mem_cons_self ..) _ h6) (SoL.mapS hs fun s z => e s (by rw [sps_md]; exact List.mem_cons_of_mem _ z))
theorem SoL.mapS : ∀ {ms : List MT} {vs : List V}, SoL C nd S R ms vs → (∀ s ∈ spsL ms, ∀ o, S s = some o → S' s = some o) → SoL C nd S' R ms vs
  | _, _, .nil, _ => .nil
  | _, _, .cons h hs, e => .cons (So.mapS h fun s z => e s (by rw [spsL_cons]; exact List.mem_append_left _ z)) (SoL.mapS hs fun s z => e s (by rw [spsL_cons]; exact List.mem_append_right _ z))
end
/-! ### walks, out of the model and the made value alone -/
theorem MAtL.len1 {ms : List MT} {vs : List V} (h : SoL C nd S R ms vs) : vs.length = ms.length := by
  induction ms generalizing vs with
  | nil => cases h; rfl
  | cons m r ih =>
    cases h with
    | cons _ hs => exact congrArg (· + 1) (ih hs)
mutual
theorem So.ivp (W : ValI K C Cs) (Ni : NodeI K C) : ∀ {m : MT} {v : V}, So C nd S R m v → MAt Cs nd R m → IP K C nd R m v ∧ VP K C nd R m v
  | _, _, .at_, .at_ h => ip_cst (nd := nd) W h
  | _, _, .ls h hs, .ls g1 g2 g3 => ip_list W h (by rw [MAtL.len1 hs]; omega) (SoL.ivp W Ni hs g3).1
  | _, _, .tu h hs, .tu g1 g2 g3 => ip_tup W h
  | _, _, .md (d := d) (pl := pl) (sp := sp) (p := p) (dx := dx) (dn := dn) (k := k) (ps := ps) (rs := rs) (m := m) h1 rp rdn row h5 h6 hs, .md g1 g2 g3 g4 g5 g6 g7 g8 => by
    have vplF := (SoL.ivp W Ni hs g8).2
    obtain ⟨nls, t, ft⟩ := vplF.tr
    have tr : Tr K C R p (p :: nls) := .mk ⟨dx, dn, m, rs, rp, rdn, row, h5⟩ vplF.all t
    have nn : nodeOf C R (.ref p) = some p := by
      show nodeO C p (R p) = some p
      rw [rp]
      show (if C = C then some p else none) = some p
      rw [if_pos rfl]
    have isl : isL R (.ref p) = false := by
      show isLO (R p) = false
      rw [rp]; rfl
    have tyn : TyX K R (.ref p) (.ref C) := .base (.ins rp Ni.cl Ni.ha Ni.hn Ni.ht Ni.hm)
    have it : Itm K C R (.ref p) := ⟨fun b e => by cases e; rw [rp]; simp, .ref C, tyn, by rw [nn]; exact Ni.sf⟩
    have trl : TrL K C R [p] (p :: nls) := by
      have z := TrL.cons tr .nil
      rw [List.append_nil] at z
      exact z
    have fin : ∀ n' ls, All2 (MsN n') [MT.md d pl sp k ps] ls → ls.map (fun x => nd x.adr) = (p :: nls).map some := fun n' ls h => by
      cases h with
      | cons h hs =>
        cases hs
        rw [List.append_nil]
        cases n' with
        | zero => exact h.elim
        | succ n' =>
          obtain ⟨d', pl', sp', k', ps', ls', e1, rfl, al⟩ := h
          cases e1
          show nd d :: _ = some p :: _
          rw [h1]
          congr 1
          exact ft n' ls' al
    exact ⟨⟨it, p :: nls, by rw [nn]; exact trl, fin⟩, ⟨.inr ⟨it, isl, .ref C, tyn, Ni.nl⟩, p :: nls, by rw [kidsV_one isl, nn]; exact trl, fin⟩⟩
theorem SoL.ivp (W : ValI K C Cs) (Ni : NodeI K C) : ∀ {ms : List MT} {vs : List V}, SoL C nd S R ms vs → MAtL Cs nd R ms → IPL K C nd R ms vs ∧ VPL K C nd R ms vs
  | _, _, .nil, .nil => ⟨.nil, .nil⟩
  | _, _, .cons h hs, .cons g gs => by
    obtain ⟨i, v⟩ := So.ivp W Ni h g
    obtain ⟨il, vl⟩ := SoL.ivp W Ni hs gs
    exact ⟨.cons i il, .cons v vl⟩
end
end
end M4

namespace M4
open PySem PySem.Spec PyProof.Rows L2 StX TL
/-! ### a place that is neither a dict nor a list of the model -/
section
variable {C : Addr} {Cs : Nat → Addr} {nd : Addr → Option Addr} {H S R : Hp} {a e : Addr} {xs ys : List MT} {o w : HO}
mutual
theorem MAt.out (he : H e = some o) (ni : isI o = false) : ∀ {m : MT}, MAt Cs nd H m → e ∉ m.lsa → e ∉ m.mds → MAt Cs nd (upd H e w) m
  | .md d pl sp k ps, .md h1 h2 h3 h4 h5 h6 h7 h8, n, q => by
    rw [lsa_md] at n
    rw [mds_md] at q
    have n1 := fun z => n (List.mem_cons.mpr (.inl z))
    have n2 := fun z => n (List.mem_cons_of_mem _ (List.mem_cons.mpr (.inl z)))
    exact .md (by rw [upd_ne fun z => q (List.mem_cons.mpr (.inl z.symm))]; exact h1) (by rw [upd_ne (Ne.symm n1)]; exact h2) (by rw [upd_ne (Ne.symm n2)]; exact h3) h4 h5 h6 h7
      (h8.out he ni (fun z => n (List.mem_cons_of_mem _ (List.mem_cons_of_mem _ z))) fun z => q (List.mem_cons_of_mem _ z))
  | .at_ v, .at_ h, _, _ => .at_ (h.map fun b u i g => by
      rw [upd_ne fun z => by rw [z, he] at g; rw [← Option.some.inj g, ni] at i; cases i]
      exact g)
  | .ls b ps, .ls h1 h2 h3, n, q => by
    rw [lsa_ls] at n
    rw [mds_ls] at q
    exact .ls (by rw [upd_ne fun z => n (List.mem_cons.mpr (.inl z.symm))]; exact h1) h2 (h3.out he ni (fun z => n (List.mem_cons_of_mem _ z)) q)
  | .tu b ps, .tu h1 h2 h3, n, q => by
    rw [lsa_tu] at n
    rw [mds_tu] at q
    exact .tu (by
      rw [upd_ne fun z => by rw [z, he] at h1; rw [Option.some.inj h1] at ni; cases ni]
      exact h1) h2 (h3.out he ni n q)
theorem MAtL.out (he : H e = some o) (ni : isI o = false) : ∀ {ms : List MT}, MAtL Cs nd H ms → e ∉ lsaL ms → e ∉ mdsL ms → MAtL Cs nd (upd H e w) ms
  | _, .nil, _, _ => .nil
  | _, .cons h hs, n, q => by
    rw [lsaL_cons] at n
    rw [mdsL_cons] at q
    exact .cons (h.out he ni (fun z => n (List.mem_append_left _ z)) fun z => q (List.mem_append_left _ z)) (hs.out he ni (fun z => n (List.mem_append_right _ z)) fun z => q (List.mem_append_right _ z))
end
mutual
/-- what the list at a holds -/
theorem Chg.kids : ∀ {m m' : MT}, Chg a xs ys m m' → MAt Cs nd H m → m.lsa.Nodup → MAtL Cs nd H xs ∧ H a = some (.lst (xs.map MT.val)) ∧ a ∉ lsaL xs
  | _, _, .md _, .md h1 h2 h3 h4 h5 h6 h7 h8, n => by
    rw [lsa_md, List.nodup_cons] at n
    exact ⟨h8, h2, fun z => n.1 (List.mem_cons_of_mem _ z)⟩
  | _, _, .ls _, .ls h1 h2 h3, n => by
    rw [lsa_ls, List.nodup_cons] at n
    exact ⟨h3, h1, n.1⟩
  | _, _, .mdIn c, .md h1 h2 h3 h4 h5 h6 h7 h8, n => by
    rw [lsa_md, List.nodup_cons, List.nodup_cons] at n
    exact ChgL.kids c h8 n.2.2
  | _, _, .lsIn c, .ls h1 h2 h3, n => by
    rw [lsa_ls, List.nodup_cons] at n
    exact ChgL.kids c h3 n.2
  | _, _, .tuIn c, .tu h1 h2 h3, n => by
    rw [lsa_tu] at n
    exact ChgL.kids c h3 n
theorem ChgL.kids : ∀ {ps qs : List MT}, ChgL a xs ys ps qs → MAtL Cs nd H ps → (lsaL ps).Nodup → MAtL Cs nd H xs ∧ H a = some (.lst (xs.map MT.val)) ∧ a ∉ lsaL xs
  | _, _, .here c, .cons h hs, n => by
    rw [lsaL_cons, List.nodup_append] at n
    exact Chg.kids c h n.1
  | _, _, .there c, .cons h hs, n => by
    rw [lsaL_cons, List.nodup_append] at n
    exact ChgL.kids c hs n.2.1
end
mutual
/-- the dicts then -/
theorem Chg.mds : ∀ {m m' : MT}, Chg a xs ys m m' → (∀ d ∈ m'.mds, d ∈ m.mds ∨ d ∈ mdsL ys) ∧ ∀ d ∈ mdsL xs, d ∈ m.mds
  | _, _, .md _ => by
    rw [mds_md, mds_md]
    exact ⟨fun d hd => (List.mem_cons.mp hd).elim (fun z => .inl (List.mem_cons.mpr (.inl z))) .inr, fun d hd => List.mem_cons_of_mem _ hd⟩
  | _, _, .ls _ => by
    rw [mds_ls, mds_ls]
    exact ⟨fun d hd => .inr hd, fun d hd => hd⟩
  | _, _, .mdIn c => by
    rw [mds_md, mds_md]
    obtain ⟨z1, z2⟩ := ChgL.mds c
    exact ⟨fun d hd => (List.mem_cons.mp hd).elim (fun z => .inl (List.mem_cons.mpr (.inl z))) fun z => (z1 d z).imp (fun y => List.mem_cons_of_mem _ y) id, fun d hd => List.mem_cons_of_mem _ (z2 d hd)⟩
  | _, _, .lsIn c => by
    rw [mds_ls, mds_ls]
    exact ChgL.mds c
  | _, _, .tuIn c => by
    rw [mds_tu, mds_tu]
    exact ChgL.mds c
theorem ChgL.mds : ∀ {ps qs : List MT}, ChgL a xs ys ps qs → (∀ d ∈ mdsL qs, d ∈ mdsL ps ∨ d ∈ mdsL ys) ∧ ∀ d ∈ mdsL xs, d ∈ mdsL ps
  | _, _, .here c => by
    rw [mdsL_cons, mdsL_cons]
    obtain ⟨z1, z2⟩ := Chg.mds c
    exact ⟨fun d hd => (List.mem_append.mp hd).elim (fun z => (z1 d z).imp (fun y => List.mem_append_left _ y) id) fun z => .inl (List.mem_append_right _ z), fun d hd => List.mem_append_left _ (z2 d hd)⟩
  | _, _, .there c => by
    rw [mdsL_cons, mdsL_cons]
    obtain ⟨z1, z2⟩ := ChgL.mds c
    exact ⟨fun d hd => (List.mem_append.mp hd).elim (fun z => .inl (List.mem_append_left _ z)) fun z => (z1 d z).imp (fun y => List.mem_append_right _ y) id, fun d hd => List.mem_append_right _ (z2 d hd)⟩
end
/-- a model with its made value, in the heap H -/
structure Wd (C : Addr) (Cs : Nat → Addr) (nd : Addr → Option Addr) (H : Hp) (m : MT) (v : V) (A : List Addr) : Prop where
  at_ : MAt Cs nd H m
  so : So C nd H H m v
  own : Own C nd H m v A
  nA : A.Nodup
  ap : ∀ c ∈ A, c ∉ m.mds ∧ c ∉ m.lsa
  nl : m.lsa.Nodup
end
end M4

namespace M4
open PySem PySem.Spec PyProof.Rows L2 StX TL
/-! ### one thing is put into a list, in the model and in what was made -/
inductive Put (x : MT) (w : V) (xs : List MT) (us : List V) : List MT → List V → Prop
  | set (k : Nat) : Put x w xs us (xs.set k x) (us.set k w)
  | app : Put x w xs us (xs ++ [x]) (us ++ [w])
section
variable {C : Addr} {Cs : Nat → Addr} {nd : Addr → Option Addr} {S R H : Hp} {x : MT} {w : V} {xs ys : List MT} {us ws : List V} {B B0 : List Addr}
theorem SoL.set_ (hx : So C nd S R x w) : ∀ {ms : List MT} {vs : List V} (k : Nat), SoL C nd S R ms vs → SoL C nd S R (ms.set k x) (vs.set k w)
  | _, _, _, .nil => by rw [List.set_nil, List.set_nil]; exact .nil
  | _, _, 0, .cons h hs => .cons hx hs
  | _, _, k + 1, .cons h hs => .cons h (SoL.set_ hx k hs)
theorem MAtL.set_ (hx : MAt Cs nd H x) : ∀ {ms : List MT} (k : Nat), MAtL Cs nd H ms → MAtL Cs nd H (ms.set k x)
  | _, _, .nil => by rw [List.set_nil]; exact .nil
  | _, 0, .cons h hs => .cons hx hs
  | _, k + 1, .cons h hs => .cons h (MAtL.set_ hx k hs)
theorem Put.so (p : Put x w xs us ys ws) (h : SoL C nd S R xs us) (hx : So C nd S R x w) : SoL C nd S R ys ws := by
  cases p with
  | set k => exact h.set_ hx k
  | app => exact SoL.snoc hx h
theorem Put.at_ (p : Put x w xs us ys ws) (h : MAtL Cs nd H xs) (hx : MAt Cs nd H x) : MAtL Cs nd H ys := by
  cases p with
  | set k => exact h.set_ hx k
  | app => exact h.app (.cons hx .nil)
/-- a list of addresses out of two -/
def Mix (L X Y : List Addr) : Prop := L.Nodup ∧ ∀ c ∈ L, c ∈ X ∨ c ∈ Y
theorem Mix.app {L X1 X2 Y : List Addr} (h : Mix L X2 Y) (n : (X1 ++ X2).Nodup) (d : ∀ c ∈ Y, c ∉ X1 ++ X2) : Mix (X1 ++ L) (X1 ++ X2) Y := by
  rw [List.nodup_append] at n
  refine ⟨List.nodup_append.mpr ⟨n.1, h.1, fun c hc c' hc' e => ?_⟩, fun c hc => ?_⟩
  · subst e
    rcases h.2 c hc' with y | y
    · exact n.2.2 _ hc _ y rfl
    · exact d c y (List.mem_append_left _ hc)
  · rcases List.mem_append.mp hc with hc | hc
    · exact .inl (List.mem_append_left _ hc)
    · exact (h.2 c hc).imp (fun y => List.mem_append_right _ y) id
theorem Mix.fst {X1 X2 Y : List Addr} (n : (X1 ++ X2).Nodup) (nY : Y.Nodup) (d : ∀ c ∈ Y, c ∉ X1 ++ X2) : Mix (Y ++ X2) (X1 ++ X2) Y := by
  rw [List.nodup_append] at n
  refine ⟨List.nodup_append.mpr ⟨nY, n.2.1, fun c hc c' hc' e => d c hc (by rw [e]; exact List.mem_append_right _ hc')⟩, fun c hc => ?_⟩
  rcases List.mem_append.mp hc with hc | hc
  · exact .inr hc
  · exact .inl (List.mem_append_right _ hc)
theorem Mix.lst {X Y : List Addr} (n : X.Nodup) (nY : Y.Nodup) (d : ∀ c ∈ Y, c ∉ X) : Mix (X ++ Y) X Y :=
  ⟨List.nodup_append.mpr ⟨n, nY, fun c hc c' hc' e => d c' hc' (e ▸ hc)⟩, fun c hc => List.mem_append.mp hc⟩
theorem OwnL.set_ (hx : Own C nd R x w B) (nB : B.Nodup) : ∀ {ms : List MT} {vs : List V} {A : List Addr} (k : Nat), OwnL C nd R ms vs A → A.Nodup → (∀ c ∈ B, c ∉ A) → ∃ L, OwnL C nd R (ms.set k x) (vs.set k w) L ∧ Mix L A B
  | _, _, _, _, .nil, n, d => by rw [List.set_nil, List.set_nil]; exact ⟨[], .nil, List.nodup_nil, fun c hc => by cases hc⟩
  | _, _, _, 0, .cons h hs, n, d => ⟨_, .cons hx hs, Mix.fst n nB d⟩
  | _, _, _, k + 1, .cons h hs, n, d => by
    have n' := n
    rw [List.nodup_append] at n'
    obtain ⟨L, o, z⟩ := OwnL.set_ hx nB k hs n'.2.1 fun c hc y => d c hc (List.mem_append_right _ y)
    exact ⟨_, .cons h o, z.app n d⟩
theorem Put.own (p : Put x w xs us ys ws) (h : OwnL C nd R xs us B0) (hx : Own C nd R x w B) (n : B0.Nodup) (nB : B.Nodup) (d : ∀ c ∈ B, c ∉ B0) : ∃ L, OwnL C nd R ys ws L ∧ Mix L B0 B := by
  cases p with
  | set k => exact h.set_ hx nB k n d
  | app => exact ⟨_, OwnL.snoc hx h, Mix.lst n nB d⟩
theorem lsaL_set (nx : x.lsa.Nodup) : ∀ {ms : List MT} (k : Nat), (lsaL ms).Nodup → (∀ c ∈ x.lsa, c ∉ lsaL ms) → Mix (lsaL (ms.set k x)) (lsaL ms) x.lsa
  | [], k, n, d => by rw [List.set_nil, lsaL_nil]; exact ⟨List.nodup_nil, fun c hc => by cases hc⟩
  | m :: r, 0, n, d => by
    rw [List.set_cons_zero, lsaL_cons, lsaL_cons]
    rw [lsaL_cons] at n d
    exact Mix.fst n nx d
  | m :: r, k + 1, n, d => by
    rw [List.set_cons_succ, lsaL_cons, lsaL_cons]
    rw [lsaL_cons] at n d
    have n' := n
    rw [List.nodup_append] at n'
    exact (lsaL_set nx k n'.2.1 fun c hc y => d c hc (List.mem_append_right _ y)).app n d
theorem Put.lsa (p : Put x w xs us ys ws) (nx : x.lsa.Nodup) (n : (lsaL xs).Nodup) (d : ∀ c ∈ x.lsa, c ∉ lsaL xs) : Mix (lsaL ys) (lsaL xs) x.lsa := by
  cases p with
  | set k => exact lsaL_set nx k n d
  | app =>
    rw [lsaL_app, lsaL_one]
    exact Mix.lst n nx d
theorem mdsL_set : ∀ {ms : List MT} (k : Nat), ∀ d ∈ mdsL (ms.set k x), d ∈ mdsL ms ∨ d ∈ x.mds
  | [], k, d, hd => by rw [List.set_nil, mdsL_nil] at hd; cases hd
  | m :: r, 0, d, hd => by
    rw [List.set_cons_zero, mdsL_cons] at hd
    rw [mdsL_cons]
    exact (List.mem_append.mp hd).elim .inr fun z => .inl (List.mem_append_right _ z)
  | m :: r, k + 1, d, hd => by
    rw [List.set_cons_succ, mdsL_cons] at hd
    rw [mdsL_cons]
    rcases List.mem_append.mp hd with z | z
    · exact .inl (List.mem_append_left _ z)
    · exact (mdsL_set k d z).imp (fun y => List.mem_append_right _ y) id
theorem Put.mds (p : Put x w xs us ys ws) : ∀ d ∈ mdsL ys, d ∈ mdsL xs ∨ d ∈ x.mds := by
  cases p with
  | set k => exact mdsL_set k
  | app =>
    intro d hd
    rw [mdsL_app, mdsL_cons, mdsL_nil, List.append_nil] at hd
    exact List.mem_append.mp hd
end
end M4

namespace M4
open PySem PySem.Spec PyProof.Rows L2 StX TL
/-! ### model and made value changed together -/
section
variable {C : Addr} {Cs : Nat → Addr} {nd : Addr → Option Addr} {T R : Hp} {a e g : Addr} {xs ys : List MT} {rs : List (Str × Str × Str)} {b : Bool} {us : List V} {o w' : HO} {gs : List V}
mutual
/-- what is its own there -/
theorem Lnk.own0 (he : R e = some o) (p : Plc rs b us o) : ∀ {m m' : MT} {v : V} {A : List Addr}, Lnk C nd R a xs ys e rs b us m m' v → Own C nd R m v A → A.Nodup → ∃ B0, OwnL C nd R xs us B0 ∧ B0.Nodup ∧ ∀ c ∈ B0, c ∈ A ∧ c ≠ e
  | _, _, _, _, .md hb h1 h2 h4, .md k1 k2 k3 k4 k5 ks, n => by
    have z := h2
    rw [k2] at z
    cases nodeFs_d (HO.ins.inj (Option.some.inj z)).2.2
    subst hb
    rw [h4] at k4
    cases k4
    cases p with
    | f hl =>
      rw [he] at k3
      have z := fkv_inj (hl.trans names_len.symm) (k5.trans names_len.symm) (HO.dK.inj (Option.some.inj k3))
      subst z
      rw [List.nodup_cons] at n
      exact ⟨_, ks, n.2, fun c hc => ⟨List.mem_cons_of_mem _ hc, fun z => n.1 (z ▸ hc)⟩⟩
  | _, _, _, _, .ls hb, .ls k ks, n => by
    subst hb
    cases p with
    | l =>
      rw [he] at k
      cases k
      rw [List.nodup_cons] at n
      exact ⟨_, ks, n.2, fun c hc => ⟨List.mem_cons_of_mem _ hc, fun z => n.1 (z ▸ hc)⟩⟩
  | _, _, _, _, .mdIn h1 h2 h3 h4 h5 l, .md k1 k2 k3 k4 k5 ks, n => by
    obtain ⟨rfl, rfl, rfl⟩ := own_vs h2 h3 h4 h5 k2 k3 k4 k5
    rw [List.nodup_cons] at n
    obtain ⟨B0, z1, z2, z3⟩ := LnkL.own0 he p l ks n.2
    exact ⟨B0, z1, z2, fun c hc => ⟨List.mem_cons_of_mem _ (z3 c hc).1, (z3 c hc).2⟩⟩
  | _, _, _, _, .lsIn h l, .ls k ks, n => by
    rw [h] at k
    cases k
    rw [List.nodup_cons] at n
    obtain ⟨B0, z1, z2, z3⟩ := LnkL.own0 he p l ks n.2
    exact ⟨B0, z1, z2, fun c hc => ⟨List.mem_cons_of_mem _ (z3 c hc).1, (z3 c hc).2⟩⟩
  | _, _, _, _, .tuIn h l, .tu k ks, n => by
    rw [h] at k
    cases k
    exact LnkL.own0 he p l ks n
theorem LnkL.own0 (he : R e = some o) (p : Plc rs b us o) : ∀ {ps qs : List MT} {vs : List V} {A : List Addr}, LnkL C nd R a xs ys e rs b us ps qs vs → OwnL C nd R ps vs A → A.Nodup → ∃ B0, OwnL C nd R xs us B0 ∧ B0.Nodup ∧ ∀ c ∈ B0, c ∈ A ∧ c ≠ e
  | _, _, _, _, .here l, .cons k ks, n => by
    rw [List.nodup_append] at n
    obtain ⟨B0, z1, z2, z3⟩ := Lnk.own0 he p l k n.1
    exact ⟨B0, z1, z2, fun c hc => ⟨List.mem_append_left _ (z3 c hc).1, (z3 c hc).2⟩⟩
  | _, _, _, _, .there l, .cons k ks, n => by
    rw [List.nodup_append] at n
    obtain ⟨B0, z1, z2, z3⟩ := LnkL.own0 he p l ks n.2.1
    exact ⟨B0, z1, z2, fun c hc => ⟨List.mem_append_right _ (z3 c hc).1, (z3 c hc).2⟩⟩
end
mutual
/-- another list is changed -/
theorem Lnk.off (hg : R g = some (.lst gs)) : ∀ {m m' : MT} {v : V} {A : List Addr}, Lnk C nd R a xs ys e rs b us m m' v → Own C nd R m v A → g ∉ A → Lnk C nd (upd R g w') a xs ys e rs b us m m' v
  | _, _, _, _, .md hb h1 h2 h4, _, _ => .md hb h1 (upd_i hg h2 fun _ z => by cases z) h4
  | _, _, _, _, .ls hb, _, _ => .ls hb
  | _, _, _, _, .mdIn h1 h2 h3 h4 h5 l, .md k1 k2 k3 k4 k5 ks, n => by
    obtain ⟨rfl, rfl, rfl⟩ := own_vs h2 h3 h4 h5 k2 k3 k4 k5
    exact .mdIn h1 (upd_i hg h2 fun _ z => by cases z) (upd_i hg h3 fun _ z => by cases z) h4 h5 (LnkL.off hg l ks fun z => n (List.mem_cons_of_mem _ z))
  | _, _, _, _, .lsIn h l, .ls k ks, n => by
    have k' := k
    rw [h] at k'
    cases k'
    exact .lsIn (by rw [upd_ne fun z => n (List.mem_cons.mpr (.inl z.symm))]; exact h) (LnkL.off hg l ks fun z => n (List.mem_cons_of_mem _ z))
  | _, _, _, _, .tuIn h l, .tu k ks, n => by
    have k' := k
    rw [h] at k'
    cases k'
    exact .tuIn (upd_i hg h fun _ z => by cases z) (LnkL.off hg l ks n)
theorem LnkL.off (hg : R g = some (.lst gs)) : ∀ {ps qs : List MT} {vs : List V} {A : List Addr}, LnkL C nd R a xs ys e rs b us ps qs vs → OwnL C nd R ps vs A → g ∉ A → LnkL C nd (upd R g w') a xs ys e rs b us ps qs vs
  | _, _, _, _, .here l, .cons k ks, n => .here (Lnk.off hg l k fun z => n (List.mem_append_left _ z))
  | _, _, _, _, .there l, .cons k ks, n => .there (LnkL.off hg l ks fun z => n (List.mem_append_right _ z))
end
mutual
theorem Chg.sub : ∀ {m m' : MT}, Chg a xs ys m m' → List.Sublist (lsaL xs) m.lsa
  | _, _, .md _ => by rw [lsa_md]; exact (List.sublist_cons_self ..).trans (List.sublist_cons_self ..)
  | _, _, .ls _ => by rw [lsa_ls]; exact List.sublist_cons_self ..
  | _, _, .mdIn c => by rw [lsa_md]; exact (ChgL.sub c).trans ((List.sublist_cons_self ..).trans (List.sublist_cons_self ..))
  | _, _, .lsIn c => by rw [lsa_ls]; exact (ChgL.sub c).trans (List.sublist_cons_self ..)
  | _, _, .tuIn c => by rw [lsa_tu]; exact ChgL.sub c
theorem ChgL.sub : ∀ {ps qs : List MT}, ChgL a xs ys ps qs → List.Sublist (lsaL xs) (lsaL ps)
  | _, _, .here c => by rw [lsaL_cons]; exact (Chg.sub c).trans (List.sublist_append_left ..)
  | _, _, .there c => by rw [lsaL_cons]; exact (ChgL.sub c).trans (List.sublist_append_right ..)
end
theorem Plc.ni (p : Plc rs b us o) : isI o = false := by cases p <;> rfl
/-- x is put into a list of m, w at its place in what was made -/
theorem Wd.putL {m m' x : MT} {v w : V} {A B : List Addr} (h : Wd C Cs nd T m v A) (hx : Wd C Cs nd T x w B) (d1 : ∀ c ∈ x.lsa, c ∉ m.lsa) (d2 : ∀ c ∈ B, c ∉ A ∧ c ∉ m.lsa ∧ c ∉ m.mds) (d3 : ∀ c ∈ A, c ∉ x.lsa ∧ c ∉ x.mds) (c : Chg a xs ys m m')
    (l : Lnk C nd T a xs ys e rs b us m m' v) (he : T e = some o) (p : Plc rs b us o) (sxs : SoL C nd T T xs us) : e ∈ A ∧ e ≠ a ∧
      ∀ ws w', Put x w xs us ys ws → Plc rs b ws w' → ∃ A', Wd C Cs nd (upd (upd T a (.lst (ys.map MT.val))) e w') m' v A' ∧ ∀ c ∈ A', c ∈ A ∨ c ∈ B := by
  have eA := Lnk.in_ l h.own
  obtain ⟨kx, ha, nax⟩ := c.kids h.at_ h.nl
  have aL : a ∈ m.lsa := c.in_
  have aA : a ∉ A := fun z => (h.ap a z).2 aL
  have aB : a ∉ B := fun z => (d2 a z).2.1 aL
  have ax : a ∉ x.lsa := fun z => d1 a z aL
  have ea : e ≠ a := fun z => aA (z ▸ eA)
  have eB : e ∉ B := fun z => (d2 e z).1 eA
  obtain ⟨B0, o0, n0, z0⟩ := Lnk.own0 he p l h.own h.nA
  have aB0 : a ∉ B0 := fun z => aA (z0 a z).1
  have eB0 : e ∉ B0 := fun z => (z0 e z).2 rfl
  refine ⟨eA, ea, fun ws w' pt q => ?_⟩
  -- the model's list
  have pa : Plc [] false (xs.map MT.val) (.lst (xs.map MT.val)) := .l
  have he1 : (upd T a (.lst (ys.map MT.val))) e = some o := by rw [upd_ne ea]; exact he
  have sp1 : ∀ {y : MT}, a ∉ y.sps → ∀ s ∈ y.sps, ∀ u, T s = some u → (upd T a (.lst (ys.map MT.val))) s = some u := fun {y} n s hs u hu => by
    rw [upd_ne (show s ≠ a from fun z => n (z ▸ hs))]; exact hu
  have so1 := (So.off (w := .lst (ys.map MT.val)) ha pa h.so h.own aA).mapS (sp1 (c.spot h.nl))
  have own1 := Own.off (w := .lst (ys.map MT.val)) ha pa h.own aA
  have sxs1 : SoL C nd (upd T a (.lst (ys.map MT.val))) (upd T a (.lst (ys.map MT.val))) xs us := (SoL.off ha pa sxs o0 aB0).mapS fun s hs u hu => by
    rw [upd_ne (show s ≠ a from fun z => nax (z ▸ spsL_lsa _ _ hs))]; exact hu
  have o1 := OwnL.off (w := .lst (ys.map MT.val)) ha pa o0 aB0
  have sx1 := (So.off (w := .lst (ys.map MT.val)) ha pa hx.so hx.own aB).mapS (sp1 fun z => ax (sps_lsa _ _ z))
  have ox1 := Own.off (w := .lst (ys.map MT.val)) ha pa hx.own aB
  have l1 := Lnk.off (w' := .lst (ys.map MT.val)) ha l h.own aA
  have at1 : MAt Cs nd (upd T a (.lst (ys.map MT.val))) m' := MAt.chg ha (pt.at_ (kx.off ha nax) (hx.at_.off ha ax)) c h.at_ h.nl
  generalize upd T a (.lst (ys.map MT.val)) = T1 at he1 so1 own1 sxs1 o1 sx1 ox1 l1 at1 ⊢
  -- the made value's
  have hy := pt.so (SoL.off (w := w') he1 p sxs1 o1 eB0) (So.off (w := w') he1 p sx1 ox1 eB)
  have so2 := Lnk.so he1 p q hy l1 so1 own1 h.nA
  obtain ⟨B1, oy, mx⟩ := pt.own (OwnL.off (w := w') he1 p o1 eB0) (Own.off (w := w') he1 p ox1 eB) n0 hx.nA fun c hc z => (d2 c hc).1 (z0 c z).1
  obtain ⟨A', oA, nA', zA⟩ := Lnk.own he1 p q oy mx.1 o1 l1 own1 h.nA (fun c hc => (mx.2 c hc).imp id fun y => (d2 c y).1) z0 he1
  have dls : ∀ c ∈ x.lsa, c ∉ lsaL xs := fun c hc z => d1 c hc (Chg.old ‹Chg a xs ys m m'› c z)
  have nlx : (lsaL xs).Nodup := (Chg.sub c).nodup h.nl
  obtain ⟨ly1, ly2⟩ := pt.lsa hx.nl nlx dls
  obtain ⟨nl', zl⟩ := Chg.lsa ly1 c h.nl fun b hb => (ly2 b hb).imp id fun y => d1 b y
  have zl2 : ∀ c ∈ m'.lsa, c ∈ m.lsa ∨ c ∈ x.lsa := fun c' hc => (zl c' hc).elim .inl fun z => (ly2 c' z).imp (fun y => Chg.old c c' y) id
  obtain ⟨zm, zx⟩ := c.mds
  have zm2 : ∀ d ∈ m'.mds, d ∈ m.mds ∨ d ∈ x.mds := fun d hd => (zm d hd).elim .inl fun z => (pt.mds d z).imp (fun y => zx d y) id
  have eL : e ∉ m'.lsa := fun z => (zl2 e z).elim (h.ap e eA).2 (d3 e eA).1
  have eM : e ∉ m'.mds := fun z => (zm2 e z).elim (h.ap e eA).1 (d3 e eA).2
  have zA2 : ∀ c ∈ A', c ∈ A ∨ c ∈ B := fun c hc => (zA c hc).elim .inl fun z => (mx.2 c z).imp (fun y => (z0 c y).1) id
  refine ⟨A', ⟨at1.out he1 p.ni eL eM, so2.mapS fun s hs u hu => ?_, oA, nA', fun c' hc => ?_, nl'⟩, zA2⟩
  · rw [upd_ne (show s ≠ e from fun z => eL (z ▸ sps_lsa _ _ hs))]; exact hu
  · rcases zA2 c' hc with y | y
    · exact ⟨fun z => (zm2 c' z).elim (h.ap c' y).1 (d3 c' y).2, fun z => (zl2 c' z).elim (h.ap c' y).2 (d3 c' y).1⟩
    · exact ⟨fun z => (zm2 c' z).elim (d2 c' y).2.2 (hx.ap c' y).1, fun z => (zl2 c' z).elim (d2 c' y).2.1 (hx.ap c' y).2⟩
end
end M4

namespace M4
open PySem PySem.Spec PyProof.Rows L2 StX TL
/-! ### iter_fields -/
abbrev sIF : Stmt := topS 22
theorem scIF : FnScope ["node", "name"] ["node"] (defScope sIF) := ⟨rfl, rfl, rfl, by decide +kernel, rfl, by decide +kernel, by decide +kernel⟩
def spIF (C : Addr) : Sp := fun us H Q _ => ∃ (p dx d : Addr) (k : Str) (m : List (Key × V)) (rs : List (Str × Str × Str)) (vs : List V), us = [.ref p] ∧ H p = some (.ins C dx (nodeFs k m d)) ∧ H d = some (.dK (fkv (namesOf rs) vs)) ∧ Fld.lookup k = some rs ∧ vs.length = rs.length ∧
  ∀ (H' : Hp) (D : Addr) (ts : List Addr), Same H H' → H D = none → H' D = some (.lst (ts.map V.ref)) → ts.length = rs.length → (∀ (i : Nat) t nm v, ts[i]? = some t → (namesOf rs)[i]? = some nm → vs[i]? = some v → H' t = some (.tup [.str nm, v])) → Q (.ref D) H'
section
variable {P : Program} {w : World} {K : PySem.W.Frag} {mg : Str → Option Value} {base : Heap} {C : Addr}
theorem ok_if {f fX fO fG fT : Addr} {fd dX dO dG : FuncData} (F : Fun K "iter_fields" "iter_fields" sIF f fd) (Nf : NodeF K C) (Nc : NodeC K C fG fT)
    (X : FnOk P w K mg base CX0 1 fX dX ["thing"] (spChk0 C)) (bX : Binds K dX ["thing"] []) (kX : PySem.W.keepIn K (.ref fX) = true) (mX : mg "check_node" = some (.ref fX))
    (O : FnOk P w K mg base CX0 1 fO dO ["kind"] spFO) (bO : Binds K dO ["kind"] []) (kO : PySem.W.keepIn K (.ref fO) = true) (mO : mg "fields_of" = some (.ref fO))
    (GT : FnOk P w K mg base CX0 1 fG dG ["self", "at"] (spGet C)) (bG : Binds K dG ["self", "at"] []) : FnOk P w K mg base CX0 3 f fd ["node"] (spIF C) := by
  refine F.ok scIF (fun vs H Q E h => ?_) (fun cdv A outer s H us Q E hr h => ?_)
  · obtain ⟨p, dx, d, k, m, rs, vs, rfl, _⟩ := h
    rfl
  obtain ⟨p, dx, d, k, m, rs, vs, rfl, hp, hd, row, hl, q⟩ := h
  have hr1 := hr.mono (show 1 ≤ 2 by decide)
  refine ⟨_, pss_cons (ps_expr (pe_call X hr1 rfl mX kX bX .nil pass0 (pa_cons (pv 0) pa_nil)))
    (pss_one (ps_ret (pe_lc (own := [("name", 1)]) (g := gName 1) (tt := tYes) rfl scIF.nd (pi_tup (pe_call O hr1 rfl mO kO bO .nil pass0 (pa_cons (pe_fld (pv 0) rfl) pa_nil))) (blkOk_by (own := [("name", 1)]) (N := ["node", "name"]) (sc := (defScope sIF)) (by decide +kernel)) (fun _ _ _ _ _ => pg_name (i := 1) scIF.nd rfl (.inl rfl)) (fun _ _ _ _ _ => pts_nil)
      (fun _ _ _ _ _ => pe_tup (pa_cons (pv 1) (pa_cons (ixnK (K := K) rfl Nc GT bG hr (pv 0) (pv 1)) pa_nil)))))), ?_⟩
  have hnd := rows_nodup row
  have hs7 := rows_small row
  have nl : (namesOf rs).length = rs.length := by unfold namesOf; rw [List.length_map]
  refine ⟨_, rfl, p, dx, _, rfl, hp, ?_⟩
  refine ⟨_, rfl, p, C, dx, _, .str k, rfl, hp, Nf.cl, Nf.n1, rfl, k, rs, rfl, row, fun H2 t nt s2 ht => ?_⟩
  refine ⟨t, rfl, ⟨_, SqT.of ht⟩, fun D nD => ?_⟩
  refine lc_tup (K := K) (a := t) (xs := (namesOf rs).map V.str) (fun j H3 => ∃ ts : List Addr, Same H2 H3 ∧ H3 D = some (.lst (ts.map V.ref)) ∧ ts.length = j ∧ ∀ (i : Nat) t nm v, ts[i]? = some t → (namesOf rs)[i]? = some nm → vs[i]? = some v → H3 t = some (.tup [.str nm, v]))
    ⟨[], same_new nD, upd_same, rfl, fun i t nm v e => by simp at e⟩ (fun i H3 _ ⟨_, s3, _⟩ => SqT.of (s3 _ _ ht)) ?_ ?_
  · rintro i x H3 hx ⟨ts, s3, h3, lt, at_⟩
    rw [List.getElem?_map] at hx
    obtain ⟨nm, hnm, rfl⟩ := Option.map_eq_some_iff.mp hx
    have hi : i < (namesOf rs).length := (List.getElem?_eq_some_iff.mp hnm).1
    obtain ⟨v, hv⟩ : ∃ v, vs[i]? = some v := ⟨_, List.getElem?_eq_getElem (by omega)⟩
    refine ⟨rfl, ?_⟩
    unfold tYes
    refine iteT ?_
    refine ⟨_, rfl, _, rfl, _, rfl, p, dx, d, nm, _, _, v, rfl, rfl, s3 _ _ (s2 _ _ hp), rfl, s3 _ _ (s2 _ _ hd), valV_fkv hnd hnm hv, by show 2 ≤ sizeLine; decide, fun u nu => ?_⟩
    have s4 := same_new (o := .tup [.str nm, v]) nu
    refine ⟨ts.map V.ref, s4 _ _ h3, by rw [List.length_map]; have zS : (1000 : Nat) ≤ sizeLine := (by decide); omega, ts ++ [u], fun c o e => ?_, ?_, by rw [List.length_append, lt]; rfl, ?_⟩
    · rw [upd_ne (ne_of_none e nD)]
      exact s4 _ _ (s3 _ _ e)
    · rw [upd_same, List.map_append]
      rfl
    · intro j t' nm' v' e1 e2 e3
      have uD : u ≠ D := fun z => by rw [z, h3] at nu; cases nu
      by_cases z : j < ts.length
      · rw [List.getElem?_append_left z] at e1
        have g := at_ j t' nm' v' e1 e2 e3
        have tD : t' ≠ D := fun z => by rw [z, h3] at g; cases g
        rw [upd_ne tD]
        exact s4 _ _ g
      · have en : j = ts.length := by
          have y := (List.getElem?_eq_some_iff.mp e1).1
          rw [List.length_append, List.length_singleton] at y
          omega
        subst en
        rw [List.getElem?_append_right (Nat.le_refl _), Nat.sub_self] at e1
        cases e1
        rw [lt, hnm] at e2
        rw [lt, hv] at e3
        cases e2
        cases e3
        rw [upd_ne uD]
        exact upd_same
  · rintro H3 ⟨ts, s3, h3, lt, at_⟩
    rw [List.length_map, nl] at lt
    exact q H3 D ts (s2.trans s3) (s2.free nD) h3 lt at_
end
end M4

namespace M4
open PySem PySem.Spec PyProof.Rows L2 StX TL
/-! ### a drawn model, great or small -/
def spMdl (Cs : Nat → Addr) (n : Nat) (Lm dm : Int) : Sp := fun vs H Q _ => ∃ (a c lf : Addr) (S : Stm) (L dp : Int) (h : Str), vs = [.ref a, .str h, .ref lf, .int dp] ∧ Ds H a c lf S L ∧ (HMT.lookup h).isSome = true ∧ 2 ≤ L ∧ L ≤ Lm ∧ 1 ≤ dp ∧ dp ≤ dm ∧ S.cnt ≤ 700000 ∧
  ∀ (H' : Hp) (S' : Stm) (m : MT), isMd m = true → StmAt H' a c S' → KpX [a, c, lf] H H' → MAt Cs (fun _ => none) (res (was H) H') m → m.mds.Nodup → m.lsa.Nodup → (m.mds.length : Int) ≤ 20 * Lm + 6 → m.hgt ≤ n → m.wid ≤ 50 → S'.cnt ≤ S.cnt + 1200 * Lm + 360 → Q m.val H'
theorem ok_mdl {P : Program} {w : World} {K : PySem.W.Frag} {mg : Str → Option Value} {base : Heap} {Cs : Nat → Addr} {f : Addr} {fd : FuncData} {n k : Nat} {Lm dm : Int} (h1 : 8 ≤ n) (h2 : 8 + 4 * dm.toNat ≤ n) (h3 : Lm ≤ 60) (M : FnOk P w K mg base CX0 k f fd pPr (spMd Cs n)) : FnOk P w K mg base CX0 k f fd pPr (spMdl Cs n Lm dm) := by
  refine M.imp fun vs H Q E h => ?_
  obtain ⟨a, c, lf, S, L, dp, h, rfl, hD, hm, l1, l2, d1, d2, hc, q⟩ := h
  obtain ⟨h8, h1, hp1, hp6, _⟩ := fm_le hm
  refine ⟨a, c, lf, S, L, dp, h, rfl, hD, hm, by omega, fun _ => by omega, fun _ => by omega, by omega, fun H' S' L' m hmd A sep => ?_⟩
  have ct := A.ct
  have dr := A.dr
  have ht := A.ht
  have nd := A.nd
  have nl := A.nl
  rw [lsaL_one] at nl
  have at_ : MAt Cs (fun _ => none) (res (was H) H') m := by
    have z := A.at_
    cases z with
    | cons h _ => exact h
  rw [mdsL_cons, mdsL_nil, List.append_nil] at ct nd
  rw [hgtL_cons, hgtL_nil] at ht
  exact q H' S' m hmd A.ds.st A.kp at_ nd nl (by omega) (by omega) (A.cf m (List.mem_singleton.mpr rfl)).wid_ (by omega)
/-! ### _law_odd_part -/
abbrev sOd : Stmt := topS 40
theorem scOd : FnScope ["_law_stream", "_law_one", "_law_other", "_law_some"] ["_law_stream"] (defScope sOd) := ⟨rfl, rfl, rfl, by decide +kernel, rfl, by decide +kernel, by decide +kernel⟩
def spOd (Cs : Nat → Addr) : Sp := fun vs H Q _ => ∃ (a c : Addr) (S : Stm), vs = [.ref a] ∧ StmAt H a c S ∧ S.cnt ≤ 690000 ∧
  ∀ (H' : Hp) (S' : Stm) (x : MT), StmAt H' a c S' → Kept a c H H' → MAt Cs (fun _ => none) (res (was H) H') x → x.mds.Nodup → x.lsa.Nodup → x.mds.length ≤ 132 → x.hgt ≤ 19 → x.wid ≤ 50 → S'.cnt ≤ S.cnt + 7921 → Q x.val H'
/-- two drawn models, one behind the other -/
structure Two (Cs : Nat → Addr) (H H' : Hp) (m1 m2 : MT) : Prop where
  a1 : MAt Cs (fun _ => none) (res (was H) H') m1
  a2 : MAt Cs (fun _ => none) (res (was H) H') m2
  d : (m1.mds ++ m2.mds).Nodup
  l : (m1.lsa ++ m2.lsa).Nodup
section
variable {P : Program} {w : World} {K : PySem.W.Frag} {mg : Str → Option Value} {base : Heap} {Cs : Nat → Addr}
theorem ok_od {f fD fM : Addr} {fd dD dM : FuncData} (F : Fun K "_law_odd_part" "_law_odd_part" sOd f fd)
    (D : FnOk P w K mg base CX0 1 fD dD ["_law_stream", "_law_many"] spDraw) (bD : Binds K dD ["_law_stream", "_law_many"] []) (kD : PySem.W.keepIn K (.ref fD) = true) (mD : mg "_law_draw" = some (.ref fD))
    (M : FnOk P w K mg base CX0 19 fM dM pPr (spMdl Cs 16 3 2)) (bM : Binds K dM pPr []) (kM : PySem.W.keepIn K (.ref fM) = true) (mM : mg "_law_model" = some (.ref fM)) :
    FnOk P w K mg base CX0 20 f fd ["_law_stream"] (spOd Cs) := by
  refine F.ok scOd (fun vs H Q E h => ?_) (fun cdv A outer s H us Q E hr h => ?_)
  · obtain ⟨a, c, S, rfl, _⟩ := h
    rfl
  obtain ⟨a, c, S, rfl, hS, hc, q⟩ := h
  have hr1 := hr.mono (show 1 ≤ 19 by decide)
  refine ⟨_, (C8.pss_cut (ps_set (i := 1) scOd.nd rfl (.inl rfl) (pe_call M hr rfl mM kM bM .nil pass0 (pa_cons (pv 0) (pa_cons pe_str (pa_cons (pe_lst (pa_cons pe_int pa_nil)) (pa_cons pe_int pa_nil))))))
    (C8.pss_cut (ps_set (i := 2) scOd.nd rfl (.inl rfl) (pe_call M hr rfl mM kM bM .nil pass0 (pa_cons (pv 0) (pa_cons pe_str (pa_cons (pe_lst (pa_cons pe_int pa_nil)) (pa_cons pe_int pa_nil))))))
    (pss_cons (ps_set (i := 3) scOd.nd rfl (.inl rfl) (pe_lst (pa_cons (pe_tup (pa_cons (pv 1) (pa_cons (pv 2) pa_nil))) (pa_cons (pe_lst (pa_cons (pe_lst (pa_cons (pv 1) pa_nil)) (pa_cons (pv 2) pa_nil))) (pa_cons (pe_lst (pa_cons (pv 1) (pa_cons pe_str (pa_cons pe_non (pa_cons (pv 2) pa_nil))))) (pa_cons pe_non (pa_cons pe_int (pa_cons pe_str (pa_cons (pe_lst pa_nil) (pa_cons (pe_lst (pa_cons (pe_tup (pa_cons (pv 1) pa_nil)) (pa_cons (pv 2) pa_nil))) (pa_cons (pe_lst (pa_cons (pe_lst (pa_cons (pe_lst (pa_cons (pv 1) pa_nil)) pa_nil)) pa_nil)) (pa_cons (pv 2) pa_nil))))))))))))
    (pss_one (ps_ret (pe_ix ix_list (pv 3) (pe_call D hr1 rfl mD kD bD .nil pass0 (pa_cons (pv 0) (pa_cons pe_int pa_nil))) (fun _ _ => rfl))))))), ?_⟩
  have zS : (100 : Nat) ≤ sizeLine := by decide
  refine ⟨fun σ H1 => ∃ (m1 : MT) (S1 : Stm), σ = [some (.ref a), some m1.val, none, none] ∧ isMd m1 = true ∧ StmAt H1 a c S1 ∧ Kept a c H H1 ∧ MAt Cs (fun _ => none) (res (was H) H1) m1 ∧ m1.mds.Nodup ∧ m1.lsa.Nodup ∧ m1.mds.length ≤ 66 ∧ m1.hgt ≤ 16 ∧ m1.wid ≤ 50 ∧ S1.cnt ≤ S.cnt + 3960, ?_, ?_⟩
  · refine ⟨_, rfl, by show 1 ≤ sizeLine; omega, fun lf nlf => ?_⟩
    have dS : Ds (upd H lf (.lst [.int 2])) a c lf S 2 := ⟨hS.keep (same_new nlf), upd_same, (ne_of_none hS.lst nlf).symm, (ne_of_none hS.cel nlf).symm⟩
    refine ⟨a, c, lf, S, 2, 1, "E", rfl, dS, by decide +kernel, by decide, by decide, by decide, by decide, by omega, fun H1 S1 m1 i1 h1 k1 at1 md1 ls1 ln1 ht1 wd1 c1 => ⟨m1, S1, rfl, i1, h1, fun b o n1 n2 e => k1 b o ?_ (same_new nlf _ _ e), at1.up (res_up fun b o n e => ⟨fun z => n ?_, e⟩), md1, ls1, by omega, ht1, wd1, by omega⟩⟩
    · have n3 := ne_of_none e nlf
      simp only [List.mem_cons, List.not_mem_nil, or_false, not_or]
      exact ⟨n1, n2, n3⟩
    · obtain ⟨o', e', n'⟩ := z
      exact ⟨o', same_new nlf _ _ e', n'⟩
  rintro σ H1 ⟨m1, S1, rfl, i1, hS1, k1, a1, md1, ls1, ln1, ht1, wd1, c1⟩
  refine ⟨fun σ H2 => ∃ (m2 : MT) (S2 : Stm), σ = [some (.ref a), some m1.val, some m2.val, none] ∧ isMd m2 = true ∧ StmAt H2 a c S2 ∧ Kept a c H H2 ∧ Two Cs H H2 m1 m2 ∧ m2.mds.length ≤ 66 ∧ m2.hgt ≤ 16 ∧ m2.wid ≤ 50 ∧ S2.cnt ≤ S.cnt + 7920, ?_, ?_⟩
  · refine ⟨_, rfl, by show 1 ≤ sizeLine; omega, fun lf nlf => ?_⟩
    have dS : Ds (upd H1 lf (.lst [.int 3])) a c lf S1 3 := ⟨hS1.keep (same_new nlf), upd_same, (ne_of_none hS1.lst nlf).symm, (ne_of_none hS1.cel nlf).symm⟩
    have wasUp : ∀ b, was H b → was H1 b := fun b ⟨o, e, n⟩ => by
      by_cases y1 : b = a
      · rw [y1]; exact was_of hS1.lst
      by_cases y2 : b = c
      · rw [y2]; exact was_of hS1.cel
      exact ⟨o, k1 b o y1 y2 e, n⟩
    have wasNew : ∀ b, was H1 b → was (upd H1 lf (.lst [.int 3])) b := fun b ⟨o, e, n⟩ => ⟨o, same_new nlf _ _ e, n⟩
    refine ⟨a, c, lf, S1, 3, 2, "E", rfl, dS, by decide +kernel, by decide, by decide, by decide, by decide, by omega, fun H2 S2 m2 i2 h2 k2 at2 md2 ls2 ln2 ht2 wd2 c2 => ?_⟩
    have k12 : ∀ b o, b ≠ a → b ≠ c → H1 b = some o → H2 b = some o := fun b o n1 n2 e => k2 b o (by
      have n3 := ne_of_none e nlf
      simp only [List.mem_cons, List.not_mem_nil, or_false, not_or]
      exact ⟨n1, n2, n3⟩) (same_new nlf _ _ e)
    refine ⟨m2, S2, rfl, i2, h2, fun b o n1 n2 e => k12 b o n1 n2 (k1 b o n1 n2 e), ⟨a1.up (res_up fun b o n e => ⟨n, k12 b o (fun z => n (z ▸ was_of hS.lst)) (fun z => n (z ▸ was_of hS.cel)) e⟩), at2.up (res_up fun b o n e => ⟨fun z => n (wasNew b (wasUp b z)), e⟩), ?_, ?_⟩, by omega, ht2, wd2, by omega⟩
    · refine List.nodup_append.mpr ⟨md1, md2, fun b hb b' hb' e => ?_⟩
      subst e
      obtain ⟨_, g1⟩ := a1.has b hb
      obtain ⟨_, g2⟩ := at2.has b hb'
      exact (res_at g2).1 (wasNew b (was_of (res_at g1).2))
    · refine List.nodup_append.mpr ⟨ls1, ls2, fun b hb b' hb' e => ?_⟩
      subst e
      obtain ⟨_, g1⟩ := a1.hasL b hb
      obtain ⟨_, g2⟩ := at2.hasL b hb'
      exact (res_at g2).1 (wasNew b (was_of (res_at g1).2))
  rintro σ H2 ⟨m2, S2, rfl, i2, hS2, k2, tw, ln2, ht2, wd2, c2⟩
  refine ⟨_, rfl, _, rfl, by show 2 ≤ sizeLine; omega, fun t0 n_t0 => ?_⟩
  have s_t0 := same_new (o := .tup [m1.val, m2.val]) n_t0
  have u_t0 : (upd H2 t0 (.tup [m1.val, m2.val])) t0 = some (.tup [m1.val, m2.val]) := upd_same
  generalize upd H2 t0 (.tup [m1.val, m2.val]) = G1 at s_t0 u_t0 ⊢
  refine ⟨_, rfl, by show 1 ≤ sizeLine; omega, fun l1 n_l1 => ?_⟩
  have s_l1 := same_new (o := .lst [m1.val]) n_l1
  have u_l1 : (upd G1 l1 (.lst [m1.val])) l1 = some (.lst [m1.val]) := upd_same
  generalize upd G1 l1 (.lst [m1.val]) = G2 at s_l1 u_l1 ⊢
  refine ⟨_, rfl, by show 2 ≤ sizeLine; omega, fun l2 n_l2 => ?_⟩
  have s_l2 := same_new (o := .lst [.ref l1, m2.val]) n_l2
  have u_l2 : (upd G2 l2 (.lst [.ref l1, m2.val])) l2 = some (.lst [.ref l1, m2.val]) := upd_same
  generalize upd G2 l2 (.lst [.ref l1, m2.val]) = G3 at s_l2 u_l2 ⊢
  refine ⟨_, rfl, _, rfl, by show 4 ≤ sizeLine; omega, fun l3 n_l3 => ?_⟩
  have s_l3 := same_new (o := .lst [m1.val, .str "x", .non, m2.val]) n_l3
  have u_l3 : (upd G3 l3 (.lst [m1.val, .str "x", .non, m2.val])) l3 = some (.lst [m1.val, .str "x", .non, m2.val]) := upd_same
  generalize upd G3 l3 (.lst [m1.val, .str "x", .non, m2.val]) = G4 at s_l3 u_l3 ⊢
  refine ⟨by show 0 ≤ sizeLine; omega, fun l4 n_l4 => ?_⟩
  have s_l4 := same_new (o := .lst []) n_l4
  have u_l4 : (upd G4 l4 (.lst [])) l4 = some (.lst []) := upd_same
  generalize upd G4 l4 (.lst []) = G5 at s_l4 u_l4 ⊢
  refine ⟨_, rfl, by show 1 ≤ sizeLine; omega, fun t5 n_t5 => ?_⟩
  have s_t5 := same_new (o := .tup [m1.val]) n_t5
  have u_t5 : (upd G5 t5 (.tup [m1.val])) t5 = some (.tup [m1.val]) := upd_same
  generalize upd G5 t5 (.tup [m1.val]) = G6 at s_t5 u_t5 ⊢
  refine ⟨_, rfl, by show 2 ≤ sizeLine; omega, fun l6 n_l6 => ?_⟩
  have s_l6 := same_new (o := .lst [.ref t5, m2.val]) n_l6
  have u_l6 : (upd G6 l6 (.lst [.ref t5, m2.val])) l6 = some (.lst [.ref t5, m2.val]) := upd_same
  generalize upd G6 l6 (.lst [.ref t5, m2.val]) = G7 at s_l6 u_l6 ⊢
  refine ⟨_, rfl, by show 1 ≤ sizeLine; omega, fun l7 n_l7 => ?_⟩
  have s_l7 := same_new (o := .lst [m1.val]) n_l7
  have u_l7 : (upd G7 l7 (.lst [m1.val])) l7 = some (.lst [m1.val]) := upd_same
  generalize upd G7 l7 (.lst [m1.val]) = G8 at s_l7 u_l7 ⊢
  refine ⟨by show 1 ≤ sizeLine; omega, fun l8 n_l8 => ?_⟩
  have s_l8 := same_new (o := .lst [.ref l7]) n_l8
  have u_l8 : (upd G8 l8 (.lst [.ref l7])) l8 = some (.lst [.ref l7]) := upd_same
  generalize upd G8 l8 (.lst [.ref l7]) = G9 at s_l8 u_l8 ⊢
  refine ⟨by show 1 ≤ sizeLine; omega, fun l9 n_l9 => ?_⟩
  have s_l9 := same_new (o := .lst [.ref l8]) n_l9
  have u_l9 : (upd G9 l9 (.lst [.ref l8])) l9 = some (.lst [.ref l8]) := upd_same
  generalize upd G9 l9 (.lst [.ref l8]) = G10 at s_l9 u_l9 ⊢
  refine ⟨_, rfl, by show 10 ≤ sizeLine; omega, fun L n_L => ?_⟩
  have s_L := same_new (o := .lst [.ref t0, .ref l2, .ref l3, .non, .int 7, .str "a", .ref l4, .ref l6, .ref l9, m2.val]) n_L
  have u_L : (upd G10 L (.lst [.ref t0, .ref l2, .ref l3, .non, .int 7, .str "a", .ref l4, .ref l6, .ref l9, m2.val])) L = some (.lst [.ref t0, .ref l2, .ref l3, .non, .int 7, .str "a", .ref l4, .ref l6, .ref l9, m2.val]) := upd_same
  generalize upd G10 L (.lst [.ref t0, .ref l2, .ref l3, .non, .int 7, .str "a", .ref l4, .ref l6, .ref l9, m2.val]) = G11 at s_L u_L ⊢
  have z1 := s_t0
  have z2 := z1.trans s_l1
  have z3 := z2.trans s_l2
  have z4 := z3.trans s_l3
  have z5 := z4.trans s_l4
  have z6 := z5.trans s_t5
  have z7 := z6.trans s_l6
  have z8 := z7.trans s_l7
  have z9 := z8.trans s_l8
  have z10 := z9.trans s_l9
  have z11 := z10.trans s_L
  have f_t0 : H2 t0 = none := n_t0
  have f_l1 : H2 l1 = none := z1.free n_l1
  have f_l2 : H2 l2 = none := z2.free n_l2
  have f_l3 : H2 l3 = none := z3.free n_l3
  have f_l4 : H2 l4 = none := z4.free n_l4
  have f_t5 : H2 t5 = none := z5.free n_t5
  have f_l6 : H2 l6 = none := z6.free n_l6
  have f_l7 : H2 l7 = none := z7.free n_l7
  have f_l8 : H2 l8 = none := z8.free n_l8
  have f_l9 : H2 l9 = none := z9.free n_l9
  have f_L : H2 L = none := z10.free n_L
  have hS3 := hS2.keep z11
  refine ⟨_, rfl, _, rfl, a, c, S2, 10, rfl, hS3, by omega, by decide, by decide, fun H3 S3 r h3 c3 k3 r0 r1 => ?_⟩
  have kp : ∀ b o, b ≠ a → b ≠ c → G11 b = some o → H3 b = some o := k3
  have free0 : ∀ {b : Addr}, H2 b = none → H b = none ∧ b ≠ a ∧ b ≠ c := fun {b} e => by
    have na : b ≠ a := fun z => by rw [z, hS2.lst] at e; cases e
    have nc : b ≠ c := fun z => by rw [z, hS2.cel] at e; cases e
    refine ⟨?_, na, nc⟩
    cases q : H b with
    | none => rfl
    | some o => rw [k2 b o na nc q] at e; cases e
  have nw : ∀ {b : Addr}, H2 b = none → ¬ was H b := fun {b} e => not_was (free0 e).1
  have kp2 : ∀ b o, b ≠ a → b ≠ c → H2 b = some o → H3 b = some o := fun b o n1 n2 e => kp b o n1 n2 (z11 _ _ e)
  have upR : Same (res (was H) H2) (res (was H) H3) := res_up fun b o n e => ⟨n, kp2 b o (fun z => n (z ▸ was_of hS.lst)) (fun z => n (z ▸ was_of hS.cel)) e⟩
  have b1 := tw.a1.up upR
  have b2 := tw.a2.up upR
  have keep : Kept a c H H3 := fun b o n1 n2 e => kp2 b o n1 n2 (k2 b o n1 n2 e)
  have cnt : S3.cnt ≤ S.cnt + 7921 := by omega
  have w_t0 := res_in (B := was H) (nw f_t0) (kp t0 _ (free0 f_t0).2.1 (free0 f_t0).2.2 (s_L _ _ (s_l9 _ _ (s_l8 _ _ (s_l7 _ _ (s_l6 _ _ (s_t5 _ _ (s_l4 _ _ (s_l3 _ _ (s_l2 _ _ (s_l1 _ _ u_t0)))))))))))
  have w_l1 := res_in (B := was H) (nw f_l1) (kp l1 _ (free0 f_l1).2.1 (free0 f_l1).2.2 (s_L _ _ (s_l9 _ _ (s_l8 _ _ (s_l7 _ _ (s_l6 _ _ (s_t5 _ _ (s_l4 _ _ (s_l3 _ _ (s_l2 _ _ u_l1))))))))))
  have w_l2 := res_in (B := was H) (nw f_l2) (kp l2 _ (free0 f_l2).2.1 (free0 f_l2).2.2 (s_L _ _ (s_l9 _ _ (s_l8 _ _ (s_l7 _ _ (s_l6 _ _ (s_t5 _ _ (s_l4 _ _ (s_l3 _ _ u_l2)))))))))
  have w_l3 := res_in (B := was H) (nw f_l3) (kp l3 _ (free0 f_l3).2.1 (free0 f_l3).2.2 (s_L _ _ (s_l9 _ _ (s_l8 _ _ (s_l7 _ _ (s_l6 _ _ (s_t5 _ _ (s_l4 _ _ u_l3))))))))
  have w_l4 := res_in (B := was H) (nw f_l4) (kp l4 _ (free0 f_l4).2.1 (free0 f_l4).2.2 (s_L _ _ (s_l9 _ _ (s_l8 _ _ (s_l7 _ _ (s_l6 _ _ (s_t5 _ _ u_l4)))))))
  have w_t5 := res_in (B := was H) (nw f_t5) (kp t5 _ (free0 f_t5).2.1 (free0 f_t5).2.2 (s_L _ _ (s_l9 _ _ (s_l8 _ _ (s_l7 _ _ (s_l6 _ _ u_t5))))))
  have w_l6 := res_in (B := was H) (nw f_l6) (kp l6 _ (free0 f_l6).2.1 (free0 f_l6).2.2 (s_L _ _ (s_l9 _ _ (s_l8 _ _ (s_l7 _ _ u_l6)))))
  have w_l7 := res_in (B := was H) (nw f_l7) (kp l7 _ (free0 f_l7).2.1 (free0 f_l7).2.2 (s_L _ _ (s_l9 _ _ (s_l8 _ _ u_l7))))
  have w_l8 := res_in (B := was H) (nw f_l8) (kp l8 _ (free0 f_l8).2.1 (free0 f_l8).2.2 (s_L _ _ (s_l9 _ _ u_l8)))
  have w_l9 := res_in (B := was H) (nw f_l9) (kp l9 _ (free0 f_l9).2.1 (free0 f_l9).2.2 (s_L _ _ u_l9))
  have w_L := kp L _ (free0 f_L).2.1 (free0 f_L).2.2 u_L
  have in1 : ∀ b ∈ m1.lsa, H2 b ≠ none := fun b hb z => by
    obtain ⟨_, g⟩ := tw.a1.hasL b hb
    rw [(res_at g).2] at z; cases z
  have in2 : ∀ b ∈ m2.lsa, H2 b ≠ none := fun b hb z => by
    obtain ⟨_, g⟩ := tw.a2.hasL b hb
    rw [(res_at g).2] at z; cases z
  have nd1 := (List.nodup_append.mp tw.d).1
  have nd2 := (List.nodup_append.mp tw.d).2.1
  have nl1 := (List.nodup_append.mp tw.l).1
  have nl2 := (List.nodup_append.mp tw.l).2.1
  have x1 : MAtL Cs (fun _ => none) (res (was H) H3) [m1] := .cons b1 .nil
  have x12 : MAtL Cs (fun _ => none) (res (was H) H3) [m1, m2] := .cons b1 (.cons b2 .nil)
  obtain ⟨j, rfl⟩ : ∃ j : Nat, r = (j : Int) := ⟨r.toNat, by omega⟩
  have o1 : ∀ {l : Addr}, H2 l = none → l ∉ m1.lsa := fun {l} e z => in1 l z e
  have o2 : ∀ {l : Addr}, H2 l = none → l ∉ m2.lsa := fun {l} e z => in2 l z e
  have n12 : l1 ≠ l2 := ne_of_none u_l1 n_l2
  have n78 : l7 ≠ l8 := ne_of_none u_l7 n_l8
  have n89 : l8 ≠ l9 := ne_of_none u_l8 n_l9
  have n79 : l7 ≠ l9 := ne_of_none (s_l8 _ _ u_l7) n_l9
  have two := tw.l
  have twd := tw.d
  rcases (by omega : j = 0 ∨ j = 1 ∨ j = 2 ∨ j = 3 ∨ j = 4 ∨ j = 5 ∨ j = 6 ∨ j = 7 ∨ j = 8 ∨ j = 9) with rfl | rfl | rfl | rfl | rfl | rfl | rfl | rfl | rfl | rfl
  · refine ⟨L, _, _, _, rfl, rfl, SqL.of w_L, atI_nat (j := 0) rfl, ?_⟩
    refine q H3 S3 (.tu t0 [m1, m2]) h3 keep (.tu w_t0 (by show 2 ≤ 100; decide) x12) ?_ ?_ ?_ ?_ (by (try simp only [wid_ls, wid_tu, wid_at, widL_cons, widL_nil, List.length_cons, List.length_nil]); omega) cnt
    · simp only [mds_ls, mds_tu, mds_at, mdsL_cons, mdsL_nil, lsa_ls, lsa_tu, lsa_at, lsaL_cons, lsaL_nil, List.append_nil, List.nil_append, hgt_ls, hgt_tu, hgt_at, hgtL_cons, hgtL_nil, List.length_append, List.length_nil]
      exact twd
    · simp only [mds_ls, mds_tu, mds_at, mdsL_cons, mdsL_nil, lsa_ls, lsa_tu, lsa_at, lsaL_cons, lsaL_nil, List.append_nil, List.nil_append, hgt_ls, hgt_tu, hgt_at, hgtL_cons, hgtL_nil, List.length_append, List.length_nil]
      exact two
    · simp only [mds_ls, mds_tu, mds_at, mdsL_cons, mdsL_nil, lsa_ls, lsa_tu, lsa_at, lsaL_cons, lsaL_nil, List.append_nil, List.nil_append, hgt_ls, hgt_tu, hgt_at, hgtL_cons, hgtL_nil, List.length_append, List.length_nil]
      omega
    · simp only [mds_ls, mds_tu, mds_at, mdsL_cons, mdsL_nil, lsa_ls, lsa_tu, lsa_at, lsaL_cons, lsaL_nil, List.append_nil, List.nil_append, hgt_ls, hgt_tu, hgt_at, hgtL_cons, hgtL_nil, List.length_append, List.length_nil]
      omega
  · refine ⟨L, _, _, _, rfl, rfl, SqL.of w_L, atI_nat (j := 1) rfl, ?_⟩
    refine q H3 S3 (.ls l2 [.ls l1 [m1], m2]) h3 keep (.ls w_l2 (by show 2 ≤ 100; decide) (.cons (.ls w_l1 (by show 1 ≤ 100; decide) x1) (.cons b2 .nil))) ?_ ?_ ?_ ?_ (by (try simp only [wid_ls, wid_tu, wid_at, widL_cons, widL_nil, List.length_cons, List.length_nil]); omega) cnt
    · simp only [mds_ls, mds_tu, mds_at, mdsL_cons, mdsL_nil, lsa_ls, lsa_tu, lsa_at, lsaL_cons, lsaL_nil, List.append_nil, List.nil_append, hgt_ls, hgt_tu, hgt_at, hgtL_cons, hgtL_nil, List.length_append, List.length_nil]
      exact twd
    · simp only [mds_ls, mds_tu, mds_at, mdsL_cons, mdsL_nil, lsa_ls, lsa_tu, lsa_at, lsaL_cons, lsaL_nil, List.append_nil, List.nil_append, hgt_ls, hgt_tu, hgt_at, hgtL_cons, hgtL_nil, List.length_append, List.length_nil]
      rw [List.nodup_cons, List.cons_append, List.nodup_cons]
      refine ⟨fun z => ?_, fun z => ?_, two⟩
      · rcases List.mem_cons.mp z with z | z
        · exact n12 z.symm
        · exact (List.mem_append.mp z).elim (o1 f_l2) (o2 f_l2)
      · exact (List.mem_append.mp z).elim (o1 f_l1) (o2 f_l1)
    · simp only [mds_ls, mds_tu, mds_at, mdsL_cons, mdsL_nil, lsa_ls, lsa_tu, lsa_at, lsaL_cons, lsaL_nil, List.append_nil, List.nil_append, hgt_ls, hgt_tu, hgt_at, hgtL_cons, hgtL_nil, List.length_append, List.length_nil]
      omega
    · simp only [mds_ls, mds_tu, mds_at, mdsL_cons, mdsL_nil, lsa_ls, lsa_tu, lsa_at, lsaL_cons, lsaL_nil, List.append_nil, List.nil_append, hgt_ls, hgt_tu, hgt_at, hgtL_cons, hgtL_nil, List.length_append, List.length_nil]
      omega
  · refine ⟨L, _, _, _, rfl, rfl, SqL.of w_L, atI_nat (j := 2) rfl, ?_⟩
    refine q H3 S3 (.ls l3 [m1, .at_ (.str "x"), .at_ .non, m2]) h3 keep (.ls w_l3 (by show 4 ≤ 100; decide) (.cons b1 (.cons (.at_ (.str _)) (.cons (.at_ .non) (.cons b2 .nil))))) ?_ ?_ ?_ ?_ (by (try simp only [wid_ls, wid_tu, wid_at, widL_cons, widL_nil, List.length_cons, List.length_nil]); omega) cnt
    · simp only [mds_ls, mds_tu, mds_at, mdsL_cons, mdsL_nil, lsa_ls, lsa_tu, lsa_at, lsaL_cons, lsaL_nil, List.append_nil, List.nil_append, hgt_ls, hgt_tu, hgt_at, hgtL_cons, hgtL_nil, List.length_append, List.length_nil]
      exact twd
    · simp only [mds_ls, mds_tu, mds_at, mdsL_cons, mdsL_nil, lsa_ls, lsa_tu, lsa_at, lsaL_cons, lsaL_nil, List.append_nil, List.nil_append, hgt_ls, hgt_tu, hgt_at, hgtL_cons, hgtL_nil, List.length_append, List.length_nil]
      rw [List.nodup_cons]
      exact ⟨fun z => (List.mem_append.mp z).elim (o1 f_l3) (o2 f_l3), two⟩
    · simp only [mds_ls, mds_tu, mds_at, mdsL_cons, mdsL_nil, lsa_ls, lsa_tu, lsa_at, lsaL_cons, lsaL_nil, List.append_nil, List.nil_append, hgt_ls, hgt_tu, hgt_at, hgtL_cons, hgtL_nil, List.length_append, List.length_nil]
      omega
    · simp only [mds_ls, mds_tu, mds_at, mdsL_cons, mdsL_nil, lsa_ls, lsa_tu, lsa_at, lsaL_cons, lsaL_nil, List.append_nil, List.nil_append, hgt_ls, hgt_tu, hgt_at, hgtL_cons, hgtL_nil, List.length_append, List.length_nil]
      omega
  · refine ⟨L, _, _, _, rfl, rfl, SqL.of w_L, atI_nat (j := 3) rfl, ?_⟩
    refine q H3 S3 (.at_ .non) h3 keep (.at_ .non) ?_ ?_ ?_ ?_ (by (try simp only [wid_ls, wid_tu, wid_at, widL_cons, widL_nil, List.length_cons, List.length_nil]); omega) cnt
    · simp only [mds_ls, mds_tu, mds_at, mdsL_cons, mdsL_nil, lsa_ls, lsa_tu, lsa_at, lsaL_cons, lsaL_nil, List.append_nil, List.nil_append, hgt_ls, hgt_tu, hgt_at, hgtL_cons, hgtL_nil, List.length_append, List.length_nil]
      exact List.nodup_nil
    · simp only [mds_ls, mds_tu, mds_at, mdsL_cons, mdsL_nil, lsa_ls, lsa_tu, lsa_at, lsaL_cons, lsaL_nil, List.append_nil, List.nil_append, hgt_ls, hgt_tu, hgt_at, hgtL_cons, hgtL_nil, List.length_append, List.length_nil]
      exact List.nodup_nil
    · simp only [mds_ls, mds_tu, mds_at, mdsL_cons, mdsL_nil, lsa_ls, lsa_tu, lsa_at, lsaL_cons, lsaL_nil, List.append_nil, List.nil_append, hgt_ls, hgt_tu, hgt_at, hgtL_cons, hgtL_nil, List.length_append, List.length_nil]
      omega
    · simp only [mds_ls, mds_tu, mds_at, mdsL_cons, mdsL_nil, lsa_ls, lsa_tu, lsa_at, lsaL_cons, lsaL_nil, List.append_nil, List.nil_append, hgt_ls, hgt_tu, hgt_at, hgtL_cons, hgtL_nil, List.length_append, List.length_nil]
      omega
  · refine ⟨L, _, _, _, rfl, rfl, SqL.of w_L, atI_nat (j := 4) rfl, ?_⟩
    refine q H3 S3 (.at_ (.int 7)) h3 keep (.at_ (.int 7)) ?_ ?_ ?_ ?_ (by (try simp only [wid_ls, wid_tu, wid_at, widL_cons, widL_nil, List.length_cons, List.length_nil]); omega) cnt
    · simp only [mds_ls, mds_tu, mds_at, mdsL_cons, mdsL_nil, lsa_ls, lsa_tu, lsa_at, lsaL_cons, lsaL_nil, List.append_nil, List.nil_append, hgt_ls, hgt_tu, hgt_at, hgtL_cons, hgtL_nil, List.length_append, List.length_nil]
      exact List.nodup_nil
    · simp only [mds_ls, mds_tu, mds_at, mdsL_cons, mdsL_nil, lsa_ls, lsa_tu, lsa_at, lsaL_cons, lsaL_nil, List.append_nil, List.nil_append, hgt_ls, hgt_tu, hgt_at, hgtL_cons, hgtL_nil, List.length_append, List.length_nil]
      exact List.nodup_nil
    · simp only [mds_ls, mds_tu, mds_at, mdsL_cons, mdsL_nil, lsa_ls, lsa_tu, lsa_at, lsaL_cons, lsaL_nil, List.append_nil, List.nil_append, hgt_ls, hgt_tu, hgt_at, hgtL_cons, hgtL_nil, List.length_append, List.length_nil]
      omega
    · simp only [mds_ls, mds_tu, mds_at, mdsL_cons, mdsL_nil, lsa_ls, lsa_tu, lsa_at, lsaL_cons, lsaL_nil, List.append_nil, List.nil_append, hgt_ls, hgt_tu, hgt_at, hgtL_cons, hgtL_nil, List.length_append, List.length_nil]
      omega
  · refine ⟨L, _, _, _, rfl, rfl, SqL.of w_L, atI_nat (j := 5) rfl, ?_⟩
    refine q H3 S3 (.at_ (.str "a")) h3 keep (.at_ (.str "a")) ?_ ?_ ?_ ?_ (by (try simp only [wid_ls, wid_tu, wid_at, widL_cons, widL_nil, List.length_cons, List.length_nil]); omega) cnt
    · simp only [mds_ls, mds_tu, mds_at, mdsL_cons, mdsL_nil, lsa_ls, lsa_tu, lsa_at, lsaL_cons, lsaL_nil, List.append_nil, List.nil_append, hgt_ls, hgt_tu, hgt_at, hgtL_cons, hgtL_nil, List.length_append, List.length_nil]
      exact List.nodup_nil
    · simp only [mds_ls, mds_tu, mds_at, mdsL_cons, mdsL_nil, lsa_ls, lsa_tu, lsa_at, lsaL_cons, lsaL_nil, List.append_nil, List.nil_append, hgt_ls, hgt_tu, hgt_at, hgtL_cons, hgtL_nil, List.length_append, List.length_nil]
      exact List.nodup_nil
    · simp only [mds_ls, mds_tu, mds_at, mdsL_cons, mdsL_nil, lsa_ls, lsa_tu, lsa_at, lsaL_cons, lsaL_nil, List.append_nil, List.nil_append, hgt_ls, hgt_tu, hgt_at, hgtL_cons, hgtL_nil, List.length_append, List.length_nil]
      omega
    · simp only [mds_ls, mds_tu, mds_at, mdsL_cons, mdsL_nil, lsa_ls, lsa_tu, lsa_at, lsaL_cons, lsaL_nil, List.append_nil, List.nil_append, hgt_ls, hgt_tu, hgt_at, hgtL_cons, hgtL_nil, List.length_append, List.length_nil]
      omega
  · refine ⟨L, _, _, _, rfl, rfl, SqL.of w_L, atI_nat (j := 6) rfl, ?_⟩
    refine q H3 S3 (.ls l4 []) h3 keep (.ls w_l4 (by show 0 ≤ 100; decide) .nil) ?_ ?_ ?_ ?_ (by (try simp only [wid_ls, wid_tu, wid_at, widL_cons, widL_nil, List.length_cons, List.length_nil]); omega) cnt
    · simp only [mds_ls, mds_tu, mds_at, mdsL_cons, mdsL_nil, lsa_ls, lsa_tu, lsa_at, lsaL_cons, lsaL_nil, List.append_nil, List.nil_append, hgt_ls, hgt_tu, hgt_at, hgtL_cons, hgtL_nil, List.length_append, List.length_nil]
      exact List.nodup_nil
    · simp only [mds_ls, mds_tu, mds_at, mdsL_cons, mdsL_nil, lsa_ls, lsa_tu, lsa_at, lsaL_cons, lsaL_nil, List.append_nil, List.nil_append, hgt_ls, hgt_tu, hgt_at, hgtL_cons, hgtL_nil, List.length_append, List.length_nil]
      exact List.nodup_cons.mpr ⟨fun z => (by cases z), List.nodup_nil⟩
    · simp only [mds_ls, mds_tu, mds_at, mdsL_cons, mdsL_nil, lsa_ls, lsa_tu, lsa_at, lsaL_cons, lsaL_nil, List.append_nil, List.nil_append, hgt_ls, hgt_tu, hgt_at, hgtL_cons, hgtL_nil, List.length_append, List.length_nil]
      omega
    · simp only [mds_ls, mds_tu, mds_at, mdsL_cons, mdsL_nil, lsa_ls, lsa_tu, lsa_at, lsaL_cons, lsaL_nil, List.append_nil, List.nil_append, hgt_ls, hgt_tu, hgt_at, hgtL_cons, hgtL_nil, List.length_append, List.length_nil]
      omega
  · refine ⟨L, _, _, _, rfl, rfl, SqL.of w_L, atI_nat (j := 7) rfl, ?_⟩
    refine q H3 S3 (.ls l6 [.tu t5 [m1], m2]) h3 keep (.ls w_l6 (by show 2 ≤ 100; decide) (.cons (.tu w_t5 (by show 1 ≤ 100; decide) x1) (.cons b2 .nil))) ?_ ?_ ?_ ?_ (by (try simp only [wid_ls, wid_tu, wid_at, widL_cons, widL_nil, List.length_cons, List.length_nil]); omega) cnt
    · simp only [mds_ls, mds_tu, mds_at, mdsL_cons, mdsL_nil, lsa_ls, lsa_tu, lsa_at, lsaL_cons, lsaL_nil, List.append_nil, List.nil_append, hgt_ls, hgt_tu, hgt_at, hgtL_cons, hgtL_nil, List.length_append, List.length_nil]
      exact twd
    · simp only [mds_ls, mds_tu, mds_at, mdsL_cons, mdsL_nil, lsa_ls, lsa_tu, lsa_at, lsaL_cons, lsaL_nil, List.append_nil, List.nil_append, hgt_ls, hgt_tu, hgt_at, hgtL_cons, hgtL_nil, List.length_append, List.length_nil]
      rw [List.nodup_cons]
      exact ⟨fun z => (List.mem_append.mp z).elim (o1 f_l6) (o2 f_l6), two⟩
    · simp only [mds_ls, mds_tu, mds_at, mdsL_cons, mdsL_nil, lsa_ls, lsa_tu, lsa_at, lsaL_cons, lsaL_nil, List.append_nil, List.nil_append, hgt_ls, hgt_tu, hgt_at, hgtL_cons, hgtL_nil, List.length_append, List.length_nil]
      omega
    · simp only [mds_ls, mds_tu, mds_at, mdsL_cons, mdsL_nil, lsa_ls, lsa_tu, lsa_at, lsaL_cons, lsaL_nil, List.append_nil, List.nil_append, hgt_ls, hgt_tu, hgt_at, hgtL_cons, hgtL_nil, List.length_append, List.length_nil]
      omega
  · refine ⟨L, _, _, _, rfl, rfl, SqL.of w_L, atI_nat (j := 8) rfl, ?_⟩
    refine q H3 S3 (.ls l9 [.ls l8 [.ls l7 [m1]]]) h3 keep (.ls w_l9 (by show 1 ≤ 100; decide) (.cons (.ls w_l8 (by show 1 ≤ 100; decide) (.cons (.ls w_l7 (by show 1 ≤ 100; decide) x1) .nil)) .nil)) ?_ ?_ ?_ ?_ (by (try simp only [wid_ls, wid_tu, wid_at, widL_cons, widL_nil, List.length_cons, List.length_nil]); omega) cnt
    · simp only [mds_ls, mds_tu, mds_at, mdsL_cons, mdsL_nil, lsa_ls, lsa_tu, lsa_at, lsaL_cons, lsaL_nil, List.append_nil, List.nil_append, hgt_ls, hgt_tu, hgt_at, hgtL_cons, hgtL_nil, List.length_append, List.length_nil]
      exact nd1
    · simp only [mds_ls, mds_tu, mds_at, mdsL_cons, mdsL_nil, lsa_ls, lsa_tu, lsa_at, lsaL_cons, lsaL_nil, List.append_nil, List.nil_append, hgt_ls, hgt_tu, hgt_at, hgtL_cons, hgtL_nil, List.length_append, List.length_nil]
      rw [List.nodup_cons, List.nodup_cons, List.nodup_cons]
      refine ⟨fun z => ?_, fun z => ?_, o1 f_l7, nl1⟩
      · rcases List.mem_cons.mp z with z | z
        · exact n89 z.symm
        · rcases List.mem_cons.mp z with z | z
          · exact n79 z.symm
          · exact o1 f_l9 z
      · rcases List.mem_cons.mp z with z | z
        · exact n78 z.symm
        · exact o1 f_l8 z
    · simp only [mds_ls, mds_tu, mds_at, mdsL_cons, mdsL_nil, lsa_ls, lsa_tu, lsa_at, lsaL_cons, lsaL_nil, List.append_nil, List.nil_append, hgt_ls, hgt_tu, hgt_at, hgtL_cons, hgtL_nil, List.length_append, List.length_nil]
      omega
    · simp only [mds_ls, mds_tu, mds_at, mdsL_cons, mdsL_nil, lsa_ls, lsa_tu, lsa_at, lsaL_cons, lsaL_nil, List.append_nil, List.nil_append, hgt_ls, hgt_tu, hgt_at, hgtL_cons, hgtL_nil, List.length_append, List.length_nil]
      omega
  · refine ⟨L, _, _, _, rfl, rfl, SqL.of w_L, atI_nat (j := 9) rfl, ?_⟩
    exact q H3 S3 m2 h3 keep b2 nd2 nl2 (by omega) (by omega) wd2 cnt
end
end M4

namespace M4
open PySem PySem.Spec PyProof.Rows L2 StX TL
/-! ### a model within a model is changed -/
section
variable {a : Addr} {xs ys : List MT}
theorem mem_chg {y y' : MT} (c : Chg a xs ys y y') : ∀ {ms : List MT}, y ∈ ms → ∃ qs, ChgL a xs ys ms qs
  | m :: r, h => by
    rcases List.mem_cons.mp h with rfl | h
    · exact ⟨_, .here c⟩
    · obtain ⟨qs, z⟩ := mem_chg c h
      exact ⟨_, .there z⟩
theorem below_chg {y y' : MT} (c : Chg a xs ys y y') : ∀ {ps : List MT}, y ∈ belowM ps → ∃ qs, ChgL a xs ys ps qs
  | [], h => by cases h
  | m :: r, h => by
    have h : y ∈ below1 m ++ belowM r := h
    rcases List.mem_append.mp h with h | h
    · cases m with
      | md d pl sp k ps =>
        rw [List.mem_singleton.mp h] at c
        exact ⟨_, .here c⟩
      | at_ v => cases h
      | ls b ms =>
        obtain ⟨z, hz, e⟩ := List.mem_filterMap.mp h
        obtain ⟨rfl, _⟩ := dict_of e
        obtain ⟨qs, w⟩ := mem_chg c hz
        exact ⟨_, .here (.lsIn w)⟩
      | tu b ms => cases h
    · obtain ⟨qs, z⟩ := below_chg c h
      exact ⟨_, .there z⟩
theorem all2_mem {R : MT → List MT → Prop} : ∀ {ms ls : List MT}, All2 R ms ls → ∀ x ∈ ls, ∃ m l, m ∈ ms ∧ R m l ∧ x ∈ l
  | _, _, .nil, x, hx => by cases hx
  | _, _, .cons h1 h2, x, hx => by
    rcases List.mem_append.mp hx with hx | hx
    · exact ⟨_, _, List.mem_cons_self .., h1, hx⟩
    · obtain ⟨m, l, z1, z2, z3⟩ := all2_mem h2 x hx
      exact ⟨m, l, List.mem_cons_of_mem _ z1, z2, z3⟩
/-- any model of a model -/
theorem msN_chg : ∀ (n : Nat) (m : MT) (l : List MT), MsN n m l → ∀ x ∈ l, ∀ {x' : MT}, Chg a xs ys x x' → ∃ m', Chg a xs ys m m'
  | 0, _, _, h, _, _, _, _ => h.elim
  | n + 1, m, l, h, x, hx, x', c => by
    obtain ⟨d, pl, sp, k, ps, ls, rfl, rfl, al⟩ := h
    rcases List.mem_cons.mp hx with rfl | hx
    · exact ⟨_, c⟩
    · obtain ⟨y, ly, z1, z2, z3⟩ := all2_mem al x hx
      obtain ⟨y', cy⟩ := msN_chg n y ly z2 x z3 c
      obtain ⟨qs, cq⟩ := below_chg cy z1
      exact ⟨_, .mdIn cq⟩
mutual
/-- how high, how many then -/
theorem Chg.size : ∀ {m m' : MT}, Chg a xs ys m m' → m'.hgt ≤ m.hgt + hgtL ys ∧ m'.mds.length + (mdsL xs).length = m.mds.length + (mdsL ys).length
  | _, _, .md _ => by
    rw [hgt_md, hgt_md, mds_md, mds_md, List.length_cons, List.length_cons]
    omega
  | _, _, .ls _ => by
    rw [hgt_ls, hgt_ls, mds_ls, mds_ls]
    omega
  | _, _, .mdIn c => by
    have := ChgL.size c
    rw [hgt_md, hgt_md, mds_md, mds_md, List.length_cons, List.length_cons]
    omega
  | _, _, .lsIn c => by
    have := ChgL.size c
    rw [hgt_ls, hgt_ls, mds_ls, mds_ls]
    omega
  | _, _, .tuIn c => by
    have := ChgL.size c
    rw [hgt_tu, hgt_tu, mds_tu, mds_tu]
    omega
theorem ChgL.size : ∀ {ps qs : List MT}, ChgL a xs ys ps qs → hgtL qs ≤ hgtL ps + hgtL ys ∧ (mdsL qs).length + (mdsL xs).length = (mdsL ps).length + (mdsL ys).length
  | _, _, .here c => by
    have := Chg.size c
    rw [hgtL_cons, hgtL_cons, mdsL_cons, mdsL_cons, List.length_append, List.length_append]
    omega
  | _, _, .there c => by
    have := ChgL.size c
    rw [hgtL_cons, hgtL_cons, mdsL_cons, mdsL_cons, List.length_append, List.length_append]
    omega
end
mutual
/-- higher by no more than the list itself -/
theorem Chg.hgt_ {e : Nat} (he : hgtL ys ≤ hgtL xs + e) : ∀ {m m' : MT}, Chg a xs ys m m' → m'.hgt ≤ m.hgt + e
  | _, _, .md _ => by rw [hgt_md, hgt_md]; omega
  | _, _, .ls _ => by rw [hgt_ls, hgt_ls]; omega
  | _, _, .mdIn c => by
    have := ChgL.hgt_ he c
    rw [hgt_md, hgt_md]
    omega
  | _, _, .lsIn c => by
    have := ChgL.hgt_ he c
    rw [hgt_ls, hgt_ls]
    omega
  | _, _, .tuIn c => by
    have := ChgL.hgt_ he c
    rw [hgt_tu, hgt_tu]
    omega
theorem ChgL.hgt_ {e : Nat} (he : hgtL ys ≤ hgtL xs + e) : ∀ {ps qs : List MT}, ChgL a xs ys ps qs → hgtL qs ≤ hgtL ps + e
  | _, _, .here c => by
    have := Chg.hgt_ he c
    rw [hgtL_cons, hgtL_cons]
    omega
  | _, _, .there c => by
    have := ChgL.hgt_ he c
    rw [hgtL_cons, hgtL_cons]
    omega
end
mutual
/-- the dicts then -/
theorem Chg.mdsN (ny : (mdsL ys).Nodup) : ∀ {m m' : MT}, Chg a xs ys m m' → m.mds.Nodup → (∀ b ∈ mdsL ys, b ∈ mdsL xs ∨ b ∉ m.mds) → m'.mds.Nodup ∧ ∀ b ∈ m'.mds, b ∈ m.mds ∨ b ∈ mdsL ys
  | _, _, .md (d := d0) _, n, d => by
    rw [mds_md] at n d ⊢
    rw [mds_md]
    rw [List.nodup_cons] at n
    refine ⟨?_, fun b hb => ?_⟩
    · rw [List.nodup_cons]
      refine ⟨fun z => ?_, ny⟩
      rcases d _ z with y | y
      · exact n.1 y
      · exact y (List.mem_cons_self ..)
    · rcases List.mem_cons.mp hb with rfl | hb
      · exact .inl (List.mem_cons_self ..)
      · exact .inr hb
  | _, _, .ls _, n, d => by
    rw [mds_ls]
    exact ⟨ny, fun b hb => .inr hb⟩
  | _, _, .mdIn c, n, d => by
    rw [mds_md] at n d ⊢
    rw [mds_md]
    rw [List.nodup_cons] at n
    have z := ChgL.mdsN ny c n.2 fun b hb => (d b hb).imp id fun y w => y (List.mem_cons_of_mem _ w)
    refine ⟨?_, fun b hb => ?_⟩
    · rw [List.nodup_cons]
      refine ⟨fun w => ?_, z.1⟩
      rcases z.2 _ w with w | w
      · exact n.1 w
      · rcases d _ w with y | y
        · exact n.1 ((ChgL.mds c).2 _ y)
        · exact y (List.mem_cons_self ..)
    · rcases List.mem_cons.mp hb with rfl | hb
      · exact .inl (List.mem_cons_self ..)
      · exact (z.2 _ hb).imp (fun y => List.mem_cons_of_mem _ y) id
  | _, _, .lsIn c, n, d => by
    rw [mds_ls] at n d ⊢
    rw [mds_ls]
    exact ChgL.mdsN ny c n d
  | _, _, .tuIn c, n, d => by
    rw [mds_tu] at n d ⊢
    rw [mds_tu]
    exact ChgL.mdsN ny c n d
theorem ChgL.mdsN (ny : (mdsL ys).Nodup) : ∀ {ps qs : List MT}, ChgL a xs ys ps qs → (mdsL ps).Nodup → (∀ b ∈ mdsL ys, b ∈ mdsL xs ∨ b ∉ mdsL ps) → (mdsL qs).Nodup ∧ ∀ b ∈ mdsL qs, b ∈ mdsL ps ∨ b ∈ mdsL ys
  | _, _, .here (m := m) (m' := m') (r := r) c, n, d => by
    rw [mdsL_cons] at n d ⊢
    rw [mdsL_cons]
    rw [List.nodup_append] at n
    have z := Chg.mdsN ny c n.1 fun b hb => (d b hb).imp id fun y w => y (List.mem_append_left _ w)
    refine ⟨List.nodup_append.mpr ⟨z.1, n.2.1, fun b hb c' hc e => ?_⟩, fun b hb => ?_⟩
    · subst e
      rcases z.2 _ hb with w | w
      · exact n.2.2 _ w _ hc rfl
      · rcases d _ w with y | y
        · exact n.2.2 _ ((Chg.mds c).2 _ y) _ hc rfl
        · exact y (List.mem_append_right _ hc)
    · rcases List.mem_append.mp hb with hb | hb
      · exact (z.2 _ hb).imp (fun y => List.mem_append_left _ y) id
      · exact .inl (List.mem_append_right _ hb)
  | _, _, .there (m := m) c, n, d => by
    rw [mdsL_cons] at n d ⊢
    rw [mdsL_cons]
    rw [List.nodup_append] at n
    have z := ChgL.mdsN ny c n.2.1 fun b hb => (d b hb).imp id fun y w => y (List.mem_append_right _ w)
    refine ⟨List.nodup_append.mpr ⟨n.1, z.1, fun b hb c' hc e => ?_⟩, fun b hb => ?_⟩
    · subst e
      rcases z.2 _ hc with w | w
      · exact n.2.2 _ hb _ w rfl
      · rcases d _ w with y | y
        · exact n.2.2 _ hb _ ((ChgL.mds c).2 _ y) rfl
        · exact y (List.mem_append_left _ hb)
    · rcases List.mem_append.mp hb with hb | hb
      · exact .inl (List.mem_append_left _ hb)
      · exact (z.2 _ hb).imp (fun y => List.mem_append_right _ y) id
end
theorem mdsL_setN {x : MT} (nx : x.mds.Nodup) : ∀ {ms : List MT} (k : Nat), (mdsL ms).Nodup → (∀ c ∈ x.mds, c ∉ mdsL ms) → Mix (mdsL (ms.set k x)) (mdsL ms) x.mds
  | [], k, n, d => by rw [List.set_nil, mdsL_nil]; exact ⟨List.nodup_nil, fun c hc => by cases hc⟩
  | m :: r, 0, n, d => by
    rw [List.set_cons_zero, mdsL_cons, mdsL_cons]
    rw [mdsL_cons] at n d
    exact Mix.fst n nx d
  | m :: r, k + 1, n, d => by
    rw [List.set_cons_succ, mdsL_cons, mdsL_cons]
    rw [mdsL_cons] at n d
    have n' := n
    rw [List.nodup_append] at n'
    exact (mdsL_setN nx k n'.2.1 fun c hc y => d c hc (List.mem_append_right _ y)).app n d
mutual
theorem Chg.subM : ∀ {m m' : MT}, Chg a xs ys m m' → List.Sublist (mdsL xs) m.mds
  | _, _, .md _ => by rw [mds_md]; exact List.sublist_cons_self ..
  | _, _, .ls _ => by rw [mds_ls]; exact List.Sublist.refl _
  | _, _, .mdIn c => by rw [mds_md]; exact (ChgL.subM c).trans (List.sublist_cons_self ..)
  | _, _, .lsIn c => by rw [mds_ls]; exact ChgL.subM c
  | _, _, .tuIn c => by rw [mds_tu]; exact ChgL.subM c
theorem ChgL.subM : ∀ {ps qs : List MT}, ChgL a xs ys ps qs → List.Sublist (mdsL xs) (mdsL ps)
  | _, _, .here c => by rw [mdsL_cons]; exact (Chg.subM c).trans (List.sublist_append_left ..)
  | _, _, .there c => by rw [mdsL_cons]; exact (ChgL.subM c).trans (List.sublist_append_right ..)
end
theorem hgtL_set {x : MT} : ∀ {ms : List MT} (k : Nat), hgtL (ms.set k x) ≤ max (hgtL ms) x.hgt
  | [], k => by rw [List.set_nil]; exact Nat.le_max_left _ _
  | m :: r, 0 => by
    rw [List.set_cons_zero, hgtL_cons, hgtL_cons]
    omega
  | m :: r, k + 1 => by
    have := hgtL_set (x := x) (ms := r) k
    rw [List.set_cons_succ, hgtL_cons, hgtL_cons]
    omega
theorem msN_at {Cs : Nat → Addr} {nd : Addr → Option Addr} {H : Hp} : ∀ (n : Nat) (m : MT) (l : List MT), MsN n m l → MAt Cs nd H m → ∀ x ∈ l, MAt Cs nd H x ∧ isMd x = true
  | 0, _, _, h, _, _, _ => h.elim
  | n + 1, m, l, h, g, x, hx => by
    obtain ⟨d, pl, sp, k, ps, ls, rfl, rfl, al⟩ := h
    rcases List.mem_cons.mp hx with rfl | hx
    · exact ⟨g, rfl⟩
    · obtain ⟨y, ly, z1, z2, z3⟩ := all2_mem al x hx
      refine msN_at n y ly z2 ?_ x z3
      cases g with
      | md _ _ _ _ _ _ _ h8 => exact dict_mem (fun m hm => h8.mem m hm) y z1
mutual
/-- what a place within holds is within -/
theorem Chg.out_ {b : Addr} : ∀ {m m' : MT}, Chg a xs ys m m' → b ∉ m.lsa → b ∉ lsaL ys → b ∉ m'.lsa
  | _, _, .md _, h, k => by
    rw [lsa_md] at h ⊢
    exact fun z => (List.mem_cons.mp z).elim (fun y => h (List.mem_cons.mpr (.inl y))) fun z => (List.mem_cons.mp z).elim (fun y => h (List.mem_cons_of_mem _ (List.mem_cons.mpr (.inl y)))) k
  | _, _, .ls _, h, k => by
    rw [lsa_ls] at h ⊢
    exact fun z => (List.mem_cons.mp z).elim (fun y => h (List.mem_cons.mpr (.inl y))) k
  | _, _, .mdIn c, h, k => by
    rw [lsa_md] at h ⊢
    exact fun z => (List.mem_cons.mp z).elim (fun y => h (List.mem_cons.mpr (.inl y))) fun z => (List.mem_cons.mp z).elim (fun y => h (List.mem_cons_of_mem _ (List.mem_cons.mpr (.inl y)))) (ChgL.out_ c (fun y => h (List.mem_cons_of_mem _ (List.mem_cons_of_mem _ y))) k)
  | _, _, .lsIn c, h, k => by
    rw [lsa_ls] at h ⊢
    exact fun z => (List.mem_cons.mp z).elim (fun y => h (List.mem_cons.mpr (.inl y))) (ChgL.out_ c (fun y => h (List.mem_cons_of_mem _ y)) k)
  | _, _, .tuIn c, h, k => by
    rw [lsa_tu] at h ⊢
    exact ChgL.out_ c h k
theorem ChgL.out_ {b : Addr} : ∀ {ps qs : List MT}, ChgL a xs ys ps qs → b ∉ lsaL ps → b ∉ lsaL ys → b ∉ lsaL qs
  | _, _, .here c, h, k => by
    rw [lsaL_cons] at h ⊢
    exact fun z => (List.mem_append.mp z).elim (Chg.out_ c (fun y => h (List.mem_append_left _ y)) k) fun y => h (List.mem_append_right _ y)
  | _, _, .there c, h, k => by
    rw [lsaL_cons] at h ⊢
    exact fun z => (List.mem_append.mp z).elim (fun y => h (List.mem_append_left _ y)) (ChgL.out_ c (fun y => h (List.mem_append_right _ y)) k)
end
theorem Chg.isMd_ {m m' : MT} (c : Chg a xs ys m m') : isMd m' = isMd m := by cases c <;> rfl
mutual
/-- some lists that are not the model's own may be left out -/
theorem MAt.noL {Cs : Nat → Addr} {nd : Addr → Option Addr} {H : Hp} {B : Addr → Prop} (hB : ∀ b, B b → ∃ xs, H b = some (.lst xs)) : ∀ {m : MT}, MAt Cs nd H m → (∀ b ∈ m.lsa, ¬ B b) → MAt Cs nd (res B H) m
  | _, .md h1 h2 h3 h4 h5 h6 h7 h8, n => by
    rw [lsa_md] at n
    exact .md (res_in (fun z => by obtain ⟨xs, e⟩ := hB _ z; rw [h1] at e; cases e) h1) (res_in (n _ (List.mem_cons_self ..)) h2) (res_in (n _ (List.mem_cons_of_mem _ (List.mem_cons_self ..))) h3) h4 h5 h6 h7 (h8.noL hB fun b hb => n b (List.mem_cons_of_mem _ (List.mem_cons_of_mem _ hb)))
  | _, .at_ h, _ => .at_ (h.map fun b u i e => res_in (fun z => by obtain ⟨xs, y⟩ := hB _ z; rw [e] at y; cases y; cases i) e)
  | _, .ls h1 h2 h3, n => by
    rw [lsa_ls] at n
    exact .ls (res_in (n _ (List.mem_cons_self ..)) h1) h2 (h3.noL hB fun b hb => n b (List.mem_cons_of_mem _ hb))
  | _, .tu h1 h2 h3, n => by
    rw [lsa_tu] at n
    exact .tu (res_in (fun z => by obtain ⟨xs, e⟩ := hB _ z; rw [h1] at e; cases e) h1) h2 (h3.noL hB n)
theorem MAtL.noL {Cs : Nat → Addr} {nd : Addr → Option Addr} {H : Hp} {B : Addr → Prop} (hB : ∀ b, B b → ∃ xs, H b = some (.lst xs)) : ∀ {ms : List MT}, MAtL Cs nd H ms → (∀ b ∈ lsaL ms, ¬ B b) → MAtL Cs nd (res B H) ms
  | _, .nil, _ => .nil
  | _, .cons h hs, n => by
    rw [lsaL_cons] at n
    exact .cons (h.noL hB fun b hb => n b (List.mem_append_left _ hb)) (hs.noL hB fun b hb => n b (List.mem_append_right _ hb))
end
theorem mdsL_setLen {x : MT} : ∀ {ms : List MT} (k : Nat), (mdsL (ms.set k x)).length ≤ (mdsL ms).length + x.mds.length
  | [], k => by rw [List.set_nil, mdsL_nil]; exact Nat.zero_le _
  | m :: r, 0 => by
    rw [List.set_cons_zero, mdsL_cons, mdsL_cons, List.length_append, List.length_append]
    omega
  | m :: r, k + 1 => by
    have := mdsL_setLen (x := x) (ms := r) k
    rw [List.set_cons_succ, mdsL_cons, mdsL_cons, List.length_append, List.length_append]
    omega
theorem widL_set {x : MT} : ∀ {ms : List MT} (k : Nat), widL (ms.set k x) ≤ max (widL ms) x.wid
  | [], k => by rw [List.set_nil]; exact Nat.le_max_left _ _
  | m :: r, 0 => by
    rw [List.set_cons_zero, widL_cons, widL_cons]
    omega
  | m :: r, k + 1 => by
    have := widL_set (x := x) (ms := r) k
    rw [List.set_cons_succ, widL_cons, widL_cons]
    omega
mutual
theorem Chg.wid_ {e : Nat} (h1 : widL ys ≤ e) (h2 : ys.length ≤ e) : ∀ {m m' : MT}, Chg a xs ys m m' → m.wid ≤ e → m'.wid ≤ e
  | _, _, .md _, h => by rw [wid_md]; exact h1
  | _, _, .ls _, h => by rw [wid_ls]; exact Nat.max_le.mpr ⟨h2, h1⟩
  | _, _, .mdIn c, h => by
    rw [wid_md] at h ⊢
    exact ChgL.wid_ h1 h2 c h
  | _, _, .lsIn c, h => by
    rw [wid_ls] at h ⊢
    have := ChgL.wid_ h1 h2 c (by omega)
    have := c.len
    omega
  | _, _, .tuIn c, h => by
    rw [wid_tu] at h ⊢
    exact ChgL.wid_ h1 h2 c h
theorem ChgL.wid_ {e : Nat} (h1 : widL ys ≤ e) (h2 : ys.length ≤ e) : ∀ {ps qs : List MT}, ChgL a xs ys ps qs → widL ps ≤ e → widL qs ≤ e
  | _, _, .here c, h => by
    rw [widL_cons] at h ⊢
    have := Chg.wid_ h1 h2 c (by omega)
    omega
  | _, _, .there c, h => by
    rw [widL_cons] at h ⊢
    have := ChgL.wid_ h1 h2 c (by omega)
    omega
end
mutual
/-- what stands within a model of a list is no longer -/
theorem Chg.widX : ∀ {m m' : MT}, Chg a xs ys m m' → widL xs ≤ m.wid
  | _, _, .md _ => by rw [wid_md]; exact Nat.le_refl _
  | _, _, .ls _ => by rw [wid_ls]; omega
  | _, _, .mdIn c => by rw [wid_md]; exact ChgL.widX c
  | _, _, .lsIn c => by
    have := ChgL.widX c
    rw [wid_ls]
    omega
  | _, _, .tuIn c => by rw [wid_tu]; exact ChgL.widX c
theorem ChgL.widX : ∀ {ps qs : List MT}, ChgL a xs ys ps qs → widL xs ≤ widL ps
  | _, _, .here c => by
    have := Chg.widX c
    rw [widL_cons]
    omega
  | _, _, .there c => by
    have := ChgL.widX c
    rw [widL_cons]
    omega
end
theorem ixN_natM {n j : Nat} (hj : j < n) : ixN n (j : Int) = some j := by
  unfold ixN
  rw [if_pos (by omega), if_pos (by omega)]; simp
end
end M4

namespace M4
open PySem PySem.Spec PyProof.Rows L2 StX TL
/-! ### what is no node is refused three times -/
theorem pss_no {X : Cx} {sts : List Stmt} : PSs X sts (fun _ _ _ => False) := ⟨fun pins s σ H D I h => h.elim⟩
theorem pss_cond {X : Cx} {sts : List Stmt} {t : TS} {c : Prop} (h : c → PSs X sts t) : PSs X sts (fun D σ H => c ∧ t D σ H) := ⟨fun pins s σ H D I q => (h q.1).run pins s σ H D I q.2⟩
abbrev sRf : Stmt := topS 42
theorem scRf : FnScope ["_law_thing", "_law_found", "_law_way", "_law_word", "e"] ["_law_thing"] (defScope sRf) := ⟨rfl, rfl, rfl, by decide +kernel, rfl, by decide +kernel, by decide +kernel⟩
/-- the classes of errors -/
structure ErrF (K : PySem.W.Frag) (mg : Str → Option Value) (CT CN : Addr) : Prop where
  gT : mg "TreeError" = some (.ref CT)
  EN : ErrC K mg "BadNode" CN
  xN : ExcC K CN
  nT : PySem.W.exmOne K (.ref CN) (.ref CT) = some true
  nN : PySem.W.kitOne K (.ref CN) (.ref CN) = some true
section
variable {P : Program} {w : World} {K : PySem.W.Frag} {mg : Str → Option Value} {base : Heap} {C CN CT : Addr}
theorem ok_wkX {f fX : Addr} {fd dX : FuncData} (F : Fun K "walk" "walk" sWk f fd)
    (X : FnOk P w K mg base (L2.CX P w) 1 fX dX ["thing"] (spChkX K C CN)) (bX : Binds K dX ["thing"] []) (kX : PySem.W.keepIn K (.ref fX) = true) (mX : mg "check_node" = some (.ref fX)) : FnOk P w K mg base (L2.CX P w) 2 f fd ["node"] (spChkX K C CN) := by
  refine F.okX scWk (fun vs H Q E h => ?_) (fun cdv A outer s H vs Q E hr h => ?_)
  · obtain ⟨v, t, rfl, _⟩ := h
    rfl
  obtain ⟨v, t, rfl, ht, hk, q⟩ := h
  exact ⟨_, pss_cons (ps_expr (pe_callS X hr rfl mX kX bX (fun σ => passAt (takes_of rfl rfl rfl rfl) σ) (pa_cons (pv 0) pa_nil))) pss_no, _, rfl, v, t, rfl, ht, hk, q⟩
theorem ok_icX {f fX : Addr} {fd dX : FuncData} (F : Fun K "iter_child_nodes" "iter_child_nodes" sIC f fd)
    (X : FnOk P w K mg base (L2.CX P w) 1 fX dX ["thing"] (spChkX K C CN)) (bX : Binds K dX ["thing"] []) (kX : PySem.W.keepIn K (.ref fX) = true) (mX : mg "check_node" = some (.ref fX)) : FnOk P w K mg base (L2.CX P w) 2 f fd ["node"] (spChkX K C CN) := by
  refine F.okX scIC (fun vs H Q E h => ?_) (fun cdv A outer s H vs Q E hr h => ?_)
  · obtain ⟨v, t, rfl, _⟩ := h
    rfl
  obtain ⟨v, t, rfl, ht, hk, q⟩ := h
  exact ⟨_, pss_cons (ps_expr (pe_callS X hr rfl mX kX bX (fun σ => passAt (takes_of rfl rfl rfl rfl) σ) (pa_cons (pv 0) pa_nil))) pss_no, _, rfl, v, t, rfl, ht, hk, q⟩
theorem ok_ifX {f fX : Addr} {fd dX : FuncData} (F : Fun K "iter_fields" "iter_fields" sIF f fd)
    (X : FnOk P w K mg base (L2.CX P w) 1 fX dX ["thing"] (spChkX K C CN)) (bX : Binds K dX ["thing"] []) (kX : PySem.W.keepIn K (.ref fX) = true) (mX : mg "check_node" = some (.ref fX)) : FnOk P w K mg base (L2.CX P w) 2 f fd ["node"] (spChkX K C CN) := by
  refine F.okX scIF (fun vs H Q E h => ?_) (fun cdv A outer s H vs Q E hr h => ?_)
  · obtain ⟨v, t, rfl, _⟩ := h
    rfl
  obtain ⟨v, t, rfl, ht, hk, q⟩ := h
  exact ⟨_, pss_cons (ps_expr (pe_callS X hr rfl mX kX bX (fun σ => passAt (takes_of rfl rfl rfl rfl) σ) (pa_cons (pv 0) pa_nil))) pss_no, _, rfl, v, t, rfl, ht, hk, q⟩
/-- a thing that is no node, whatever is made meanwhile -/
def spRf (K : PySem.W.Frag) (C : Addr) : Sp := fun vs H Q _ => ∃ (v : V) (t : Value), vs = [v] ∧ TyX K H v t ∧ PySem.W.kitOne K t (.ref C) = some false ∧ ∀ H', Same H H' → Q (.bl true) H'
theorem ok_rf {f fW fI fF : Addr} {fd dW dI dF : FuncData} (F : Fun K "_law_is_refused" "_law_is_refused" sRf f fd) (Z : Blt mg) (X : ErrF K mg CT CN)
    (WK : FnOk P w K mg base (L2.CX P w) 2 fW dW ["node"] (spChkX K C CN)) (bW : Binds K dW ["node"] []) (kW : PySem.W.keepIn K (.ref fW) = true) (mW : mg "walk" = some (.ref fW))
    (IC : FnOk P w K mg base (L2.CX P w) 2 fI dI ["node"] (spChkX K C CN)) (bI : Binds K dI ["node"] []) (kI : PySem.W.keepIn K (.ref fI) = true) (mI : mg "iter_child_nodes" = some (.ref fI))
    (IF : FnOk P w K mg base (L2.CX P w) 2 fF dF ["node"] (spChkX K C CN)) (bF : Binds K dF ["node"] []) (kF : PySem.W.keepIn K (.ref fF) = true) (mF : mg "iter_fields" = some (.ref fF)) : FnOk P w K mg base CX0 3 f fd ["_law_thing"] (spRf K C) := by
  refine F.ok scRf (fun vs H Q E h => ?_) (fun cdv A outer s H vs Q E hr h => ?_)
  · obtain ⟨v, t, rfl, _⟩ := h
    rfl
  obtain ⟨v, t, rfl, ht, hk, q⟩ := h
  have isE : ∀ (Y : Cx) (D a : Addr) (oe : Obj) (pn : List (Addr × Obj)), Y.K = K → ExcC K D → Zc (.ref D) none oe → (∃ vs, oe.data = .fields vs) → CallR (Y.suite a ((a, oe) :: pn)) (.builtin "isinstance") (rIsE K D a) := fun Y D a oe pn e hC hz hf => by
    subst e
    exact call_isE hC hz hf
  refine ⟨_, pss_cons (ps_set (i := 1) scRf.nd rfl (.inl rfl) (pe_lst pa_nil))
    (pss_cons (ps_for PassesOwn.never rfl (pi_range1 (by rfl) Z.rg (pa_cons pe_int pa_nil)) (pg_name (i := 2) scRf.nd rfl (.inl rfl))
      (pss_cons (ps_set (i := 3) scRf.nd rfl (.inl rfl) pe_str)
      (pss_cons (ps_try_all (i := 4) rfl rfl scRf.nd rfl rfl takes0 (fun W pn xe tk _ => pss_one (ps_if (pt_cmpR op_eq (pv 2) pe_int (nomark _)) (pss_one (ps_expr (pe_callS WK hr rfl mW kW bW (fun σ => passAt tk σ) (pa_cons (pv 0) pa_nil))))
          (pss_one (ps_if (pt_cmpR op_eq (pv 2) pe_int (nomark _)) (pss_one (ps_expr (pe_callS IC hr rfl mI kI bI (fun σ => passAt tk σ) (pa_cons (pv 0) pa_nil)))) (pss_one (ps_expr (pe_callS IF hr rfl mF kF bF (fun σ => passAt tk σ) (pa_cons (pv 0) pa_nil))))))))
        (HdsAs.cons ⟨rfl, by decide, .inl X.gT⟩ (fun a oe cls d pn hz hf => pss_cond (c := cls = .ref CN ∧ d = none) fun ⟨e1, e2⟩ => pss_one (ps_set (i := 3) scRf.nd rfl (.inl rfl) (pe_ifExp (pt_val
            (pe_callB (isE _ CN a oe pn rfl X.xN (by rw [e1, e2] at hz; exact hz) hf) (by rfl) Z.isI (by decide +kernel) (pa_cons (pv 4) (pa_cons (pe_glob (v := .ref CN) rfl X.EN.g rfl) pa_nil)))) pe_str pe_str)))
          .nil))
      (pss_one (ps_expr (pe_bm PySem.F.plainAttrs_list PySem.F.slot_list_append PySem.F.type_list_append mt_append (pv 1) (pa_cons (pv 3) pa_nil)))))))
    (pss_one (ps_ret (pe_cmpR (op_eqG (rcG_list mon_flat eqG_flat) (hr.mono (by decide))) (pv 1) (pe_op op_rep (pe_lst (pa_cons pe_str pa_nil)) pe_int) (nomark _))))), ?_⟩
  refine ⟨by show 0 ≤ sizeLine; exact Nat.zero_le _, fun L nL => ?_⟩
  have s1 := same_new (o := .lst []) nL
  have hL : (upd H L (.lst [])) L = some (.lst []) := upd_same
  generalize upd H L (.lst []) = H1 at s1 hL ⊢
  have zS : (100 : Nat) ≤ sizeLine := by decide
  refine ⟨3, rfl, by decide, by decide, for_range (lo := 0) (n := 3) (fun i σ H' => ∃ x2 x3 x4 : Option V, σ = [some v, some (.ref L), x2, x3, x4] ∧ (∀ b o, b ≠ L → H1 b = some o → H' b = some o) ∧ H' L = some (.lst (List.replicate i (.str "node")))) ⟨none, none, none, rfl, fun _ _ _ e => e, hL⟩ ?_ ?_⟩
  · rintro i σ H2 hi ⟨x2, x3, x4, rfl, k2, h2⟩
    have sH : Same H H2 := fun b o e => k2 b o (ne_of_none e nL) (s1 b o e)
    have ty := tyX_up ht sH
    have rest : ∃ x2' x3' x4' : Option V, ([some v, some (V.ref L), some (.int (0 + (i : Nat))), some (.str "node"), none] : L2.St) = [some v, some (.ref L), x2', x3', x4'] ∧ (∀ b o, b ≠ L → H1 b = some o → (upd H2 L (.lst (List.replicate i (.str "node") ++ [.str "node"]))) b = some o) ∧ (upd H2 L (.lst (List.replicate i (.str "node") ++ [.str "node"]))) L = some (.lst (List.replicate (i + 1) (.str "node"))) :=
      ⟨_, _, _, rfl, fun b o n e => by rw [upd_ne n]; exact k2 b o n e, by rw [upd_same, List.replicate_succ']⟩
    have li : (List.replicate i (V.str "node")).length < sizeLine := by rw [List.length_replicate]; omega
    rcases (by omega : i = 0 ∨ i = 1 ∨ i = 2) with rfl | rfl | rfl
    · refine ⟨_, rfl, rfl, _, rfl, iteT ?_⟩
      refine ⟨_, rfl, v, t, rfl, ty, hk, ⟨true, X.nT, fun _ a na => ⟨⟨rfl, rfl⟩, _, rfl, .ref CN, .ref CN, _, rfl, fun _ r => r, X.nN, _, rfl, iteT ?_⟩, fun z => (by cases z)⟩⟩
      exact ⟨_, rfl, .inl ⟨rfl, _, SqL.of h2⟩, _, rfl, L, _, _, rfl, rfl, h2, li, rest⟩
    · refine ⟨_, rfl, rfl, _, rfl, iteF ⟨_, rfl, rfl, _, rfl, iteT ?_⟩⟩
      refine ⟨_, rfl, v, t, rfl, ty, hk, ⟨true, X.nT, fun _ a na => ⟨⟨rfl, rfl⟩, _, rfl, .ref CN, .ref CN, _, rfl, fun _ r => r, X.nN, _, rfl, iteT ?_⟩, fun z => (by cases z)⟩⟩
      exact ⟨_, rfl, .inl ⟨rfl, _, SqL.of h2⟩, _, rfl, L, _, _, rfl, rfl, h2, li, rest⟩
    · refine ⟨_, rfl, rfl, _, rfl, iteF ⟨_, rfl, rfl, _, rfl, iteF ?_⟩⟩
      refine ⟨_, rfl, v, t, rfl, ty, hk, ⟨true, X.nT, fun _ a na => ⟨⟨rfl, rfl⟩, _, rfl, .ref CN, .ref CN, _, rfl, fun _ r => r, X.nN, _, rfl, iteT ?_⟩, fun z => (by cases z)⟩⟩
      exact ⟨_, rfl, .inl ⟨rfl, _, SqL.of h2⟩, _, rfl, L, _, _, rfl, rfl, h2, li, rest⟩
  · rintro σ H2 ⟨x2, x3, x4, rfl, k2, h2⟩
    have sH : Same H H2 := fun b o e => k2 b o (ne_of_none e nL) (s1 b o e)
    refine ⟨_, rfl, by show 1 ≤ sizeLine; omega, fun l nl => ?_⟩
    have s3 := same_new (o := .lst [.str "node"]) nl
    refine ⟨l, 3, _, rfl, rfl, upd_same, by decide, by decide, by show 1 * 3 ≤ sizeLine; omega, fun p np => ?_⟩
    have s4 := same_new (o := .lst (List.replicate (3 : Int).toNat [V.str "node"]).flatten) np
    refine ⟨⟨L, p, _, _, rfl, rfl, s4 _ _ (s3 _ _ h2), upd_same, rfl, fun j x y e1 e2 => ?_⟩, fun H' e => q H' (fun b o g => e b o (s4 _ _ (s3 _ _ (sH _ _ g))))⟩
    have z : (List.replicate (3 : Int).toNat [V.str "node"]).flatten = List.replicate 3 (.str "node") := rfl
    rw [z] at e2
    rw [e1] at e2
    cases e2
    obtain ⟨_, rfl⟩ := List.mem_replicate.mp (List.mem_of_getElem? e1)
    exact ⟨rfl, rfl, by simp [eqV]⟩
end
end M4

namespace M4
open PySem PySem.Spec PyProof.Rows L2 StX TL
/-! ### lists of equal things -/
/-- equal flat things: the same object, or the same value -/
inductive EqY : V → V → Prop
  | ref (p : Addr) : EqY (.ref p) (.ref p)
  | non : EqY .non .non
  | str (x : Str) : EqY (.str x) (.str x)
  | int (i : Int) : EqY (.int i) (.int i)
  | bl (b : Bool) : EqY (.bl b) (.bl b)
inductive EqYL : List V → List V → Prop
  | nil : EqYL [] []
  | cons {x y : V} {xs ys : List V} : EqY x y → EqYL xs ys → EqYL (x :: xs) (y :: ys)
/-- .. or lists of equal flat things -/
inductive EqZ (H : Hp) : V → V → Prop
  | flat {x y : V} : EqY x y → EqZ H x y
  | lst {a b : Addr} {xs ys : List V} : H a = some (.lst xs) → H b = some (.lst ys) → EqYL xs ys → EqZ H (.ref a) (.ref b)
  | tup {a b : Addr} {xs ys : List V} : H a = some (.tup xs) → H b = some (.tup ys) → EqYL xs ys → EqZ H (.ref a) (.ref b)
inductive EqZL (H : Hp) : List V → List V → Prop
  | nil : EqZL H [] []
  | cons {x y : V} {xs ys : List V} : EqZ H x y → EqZL H xs ys → EqZL H (x :: xs) (y :: ys)
theorem eqY_at {A : Around} {s : Shared} {x y : V} {v u : Value} (h : EqY x y) (rx : L2.RelV x v) (ry : L2.RelV y u) : SeqAt.EqAt A s v u true := by
  cases h with
  | ref p =>
    cases (show v = Value.ref p from rx)
    cases (show u = Value.ref p from ry)
    exact SeqAt.EqAt.same _
  | non =>
    cases (show v = Value.none from rx)
    cases (show u = Value.none from ry)
    exact SeqAt.EqAt.same _
  | str x =>
    obtain ⟨t, rfl⟩ := rx
    obtain ⟨t', rfl⟩ := ry
    have z := SeqAt.EqAt.str_str (A := A) (s := s) x t x t'
    rw [beq_self_eq_true] at z
    exact z
  | int i =>
    obtain ⟨t, rfl⟩ := rx
    obtain ⟨t', rfl⟩ := ry
    have z := SeqAt.EqAt.int_int (A := A) (s := s) i t i t'
    rw [beq_self_eq_true] at z
    exact z
  | bl b =>
    cases (show v = Value.bool b from rx)
    cases (show u = Value.bool b from ry)
    exact SeqAt.EqAt.same _
theorem eqYL_len : ∀ {xs ys : List V}, EqYL xs ys → xs.length = ys.length
  | _, _, .nil => rfl
  | _, _, .cons _ h => congrArg (· + 1) (eqYL_len h)
theorem eqZL_len {H : Hp} : ∀ {xs ys : List V}, EqZL H xs ys → xs.length = ys.length
  | _, _, .nil => rfl
  | _, _, .cons _ h => congrArg (· + 1) (eqZL_len h)
theorem eqYL_get : ∀ {xs ys : List V}, EqYL xs ys → ∀ {i : Nat} {x y : V}, xs[i]? = some x → ys[i]? = some y → EqY x y
  | _, _, .nil, i, x, y, h, _ => by simp at h
  | _, _, .cons h hs, 0, x, y, e1, e2 => by cases e1; cases e2; exact h
  | _, _, .cons h hs, i + 1, x, y, e1, e2 => eqYL_get hs (i := i) e1 e2
theorem eqZL_get {H : Hp} : ∀ {xs ys : List V}, EqZL H xs ys → ∀ {i : Nat} {x y : V}, xs[i]? = some x → ys[i]? = some y → EqZ H x y
  | _, _, .nil, i, x, y, h, _ => by simp at h
  | _, _, .cons h hs, 0, x, y, e1, e2 => by cases e1; cases e2; exact h
  | _, _, .cons h hs, i + 1, x, y, e1, e2 => eqZL_get hs (i := i) e1 e2
section
variable {X : Cx} {pins : List (Addr × Obj)} {σ : L2.St} {H : Hp} {s : Shared}
theorem vals_at {xs : List V} {its : List Value} (r : Vals xs its) {j : Nat} (h : j < its.toArray.size) : ∃ x, xs[j]? = some x ∧ L2.RelV x its.toArray[j] := by
  have hl := r.length
  have h' : j < its.length := by simpa using h
  have hx : j < xs.length := by omega
  obtain ⟨u, e, ru⟩ := r.get (List.getElem?_eq_getElem hx)
  refine ⟨_, List.getElem?_eq_getElem hx, ?_⟩
  rw [List.getElem?_eq_getElem h'] at e
  cases e
  simpa using ru
theorem all_range (n : Nat) : (List.range n).all (fun _ => true) = true := by
  rw [List.all_eq_true]
  exact fun _ _ => rfl
theorem eqZ_at {A : Around} {x y : V} {v u : Value} (I : Inv X pins σ H s) (hu : A.in1.units < cLine) (h : EqZ H x y) (rx : L2.RelV x v) (ry : L2.RelV y u) : SeqAt.EqAt A.in1 s v u true := by
  cases h with
  | flat h => exact eqY_at h rx ry
  | @lst a b xs ys ha hb hl =>
    cases (show v = Value.ref a from rx)
    cases (show u = Value.ref b from ry)
    by_cases z : a = b
    · subst z
      exact SeqAt.EqAt.same _
    obtain ⟨_, its, k, rr, g⟩ := I.hok a _ ha
    obtain ⟨_, its2, k2, rr2, g2⟩ := I.hok b _ hb
    have len : its.toArray.size = its2.toArray.size := by
      rw [List.size_toArray, List.size_toArray, ← rr.length, ← rr2.length]
      exact eqYL_len hl
    have q := SeqAt.RcAt.lists (A := A.in1) (s := s) (l := a) (b := b) (items := its.toArray) (items2 := its2.toArray) (e := fun _ => true) ⟨_, g, rfl, k, rfl⟩ ⟨_, g2, rfl, k2, rfl⟩ len hu fun j h1 h2 => by
      obtain ⟨x, e1, r1⟩ := vals_at rr h1
      obtain ⟨y, e2, r2⟩ := vals_at rr2 h2
      exact eqY_at (eqYL_get hl e1 e2) r1 r2
    rw [all_range] at q
    exact SeqAt.EqAt.of_refs z q
  | @tup a b xs ys ha hb hl =>
    cases (show v = Value.ref a from rx)
    cases (show u = Value.ref b from ry)
    by_cases z : a = b
    · subst z
      exact SeqAt.EqAt.same _
    obtain ⟨_, its, rr, g⟩ := I.hok a _ ha
    obtain ⟨_, its2, rr2, g2⟩ := I.hok b _ hb
    have len : its.toArray.size = its2.toArray.size := by
      rw [List.size_toArray, List.size_toArray, ← rr.length, ← rr2.length]
      exact eqYL_len hl
    have q := SeqAt.RcAt.tuples (A := A.in1) (s := s) (l := a) (b := b) (items := its.toArray) (items2 := its2.toArray) (e := fun _ => true) g g2 hu fun j h1 h2 => by
      obtain ⟨x, e1, r1⟩ := vals_at rr h1
      obtain ⟨y, e2, r2⟩ := vals_at rr2 h2
      exact eqY_at (eqYL_get hl e1 e2) r1 r2
    rw [all_range, Bool.true_and, len, beq_self_eq_true] at q
    exact SeqAt.EqAt.of_refs z q
def rNeL : R2 := fun x y H Q => ∃ (a b : Addr) (xs ys : List V), x = .ref a ∧ y = .ref b ∧ H a = some (.lst xs) ∧ H b = some (.lst ys) ∧ EqZL H xs ys ∧ Q (.bl false) H
/-- list != list, the items equal -/
theorem op_neL {X : Cx} (hu : X.A.units + 64 < cLine) : OpR X (compareOp .NotEq) rNeL := by
  intro pins s σ H x y v u Q I rx ry h
  obtain ⟨a, b, xs, ys, rfl, rfl, ha, hb, hl, q⟩ := h
  cases rx
  cases ry
  obtain ⟨_, its, k, rr, g⟩ := I.hok a _ ha
  obtain ⟨_, its2, k2, rr2, g2⟩ := I.hok b _ hb
  have len : its.toArray.size = its2.toArray.size := by
    rw [List.size_toArray, List.size_toArray, ← rr.length, ← rr2.length]
    exact eqZL_len hl
  have hu1 : X.A.in1.units < cLine := by
    show X.A.units + 1 < _
    omega
  have z := SeqAt.RcNeAt.lists (A := X.A) (s := s) (l := a) (b := b) (items := its.toArray) (items2 := its2.toArray) (e := fun _ => true) ⟨_, g, rfl, k, rfl⟩ ⟨_, g2, rfl, k2, rfl⟩ len (by omega) fun j h1 h2 => by
    obtain ⟨x, e1, r1⟩ := vals_at rr h1
    obtain ⟨y, e2, r2⟩ := vals_at rr2 h2
    exact eqZ_at I hu1 (eqZL_get hl e1 e2) r1 r2
  rw [all_range] at z
  exact z X.prog X.w X.xe _ ⟨.bl false, H, I, rfl, q⟩
def rEqL : R2 := fun x y H Q => ∃ (a b : Addr) (xs ys : List V), x = .ref a ∧ y = .ref b ∧ H a = some (.lst xs) ∧ H b = some (.lst ys) ∧ EqZL H xs ys ∧ Q (.bl true) H
/-- list == list, the items equal -/
theorem op_eqL {X : Cx} (hu : X.A.units + 64 < cLine) : OpR X (compareOp .Eq) rEqL := by
  intro pins s σ H x y v u Q I rx ry h
  obtain ⟨a, b, xs, ys, rfl, rfl, ha, hb, hl, q⟩ := h
  cases rx
  cases ry
  obtain ⟨_, its, k, rr, g⟩ := I.hok a _ ha
  obtain ⟨_, its2, k2, rr2, g2⟩ := I.hok b _ hb
  have len : its.toArray.size = its2.toArray.size := by
    rw [List.size_toArray, List.size_toArray, ← rr.length, ← rr2.length]
    exact eqZL_len hl
  have hu1 : X.A.in1.units < cLine := by
    show X.A.units + 1 < _
    omega
  have z := SeqAt.RcAt.lists (A := X.A) (s := s) (l := a) (b := b) (items := its.toArray) (items2 := its2.toArray) (e := fun _ => true) ⟨_, g, rfl, k, rfl⟩ ⟨_, g2, rfl, k2, rfl⟩ len (by omega) fun j h1 h2 => by
    obtain ⟨x, e1, r1⟩ := vals_at rr h1
    obtain ⟨y, e2, r2⟩ := vals_at rr2 h2
    exact eqZ_at I hu1 (eqZL_get hl e1 e2) r1 r2
  rw [all_range] at z
  exact z X.prog X.w X.xe _ ⟨.bl true, H, I, rfl, q⟩
end
/-- list != [] -/
def rNeE : R2 := fun x y H Q => ∃ (a b : Addr) (xs : List V), x = .ref a ∧ y = .ref b ∧ H a = some (.lst xs) ∧ H b = some (.lst []) ∧ Q (.bl (!xs.isEmpty)) H
theorem op_neE {X : Cx} (hu : X.A.units + 64 < cLine) : OpR X (compareOp .NotEq) rNeE := by
  intro pins s σ H x y v u Q I rx ry h
  obtain ⟨a, b, xs, rfl, rfl, ha, hb, q⟩ := h
  cases xs with
  | nil => exact op_neD hu pins s σ H _ _ v u Q I rx ry ⟨.list [], .list [], .lst (SqL.of ha) .nil, .lst (SqL.of hb) .nil, rfl, rfl, q⟩
  | cons z r =>
    cases rx
    cases ry
    obtain ⟨_, its, k, rr, g⟩ := I.hok a _ ha
    obtain ⟨_, its2, k2, rr2, g2⟩ := I.hok b _ hb
    refine SeqAt.RcNeAt.lists_lengths (items := its.toArray) (items2 := its2.toArray) ⟨_, g, rfl, k, rfl⟩ ⟨_, g2, rfl, k2, rfl⟩ ?_ (by omega) X.prog X.w X.xe _ ⟨.bl true, H, I, rfl, q⟩
    rw [List.size_toArray, List.size_toArray, ← rr.length, ← rr2.length]
    simp
/-! ### _law_bent -/
abbrev sBe : Stmt := topS 41
theorem scBe : FnScope ["_law_stream", "_law_model_here", "_law_some", "_law_one"] ["_law_stream", "_law_model_here"] (defScope sBe) := ⟨rfl, rfl, rfl, by decide +kernel, rfl, by decide +kernel, by decide +kernel⟩
/-- a drawn model, one of its parts put in anew or none -/
def spBe (Cs : Nat → Addr) : Sp := fun vs H Q _ => ∃ (a c : Addr) (S : Stm) (m : MT), vs = [.ref a, m.val] ∧ StmAt H a c S ∧ S.cnt ≤ 600000 ∧ isMd m = true ∧ MAt Cs (fun _ => none) H m ∧ m.lsa.Nodup ∧ m.mds.Nodup ∧ a ∉ m.lsa ∧ c ∉ m.lsa ∧ m.mds.length ≤ 1000 ∧ m.hgt ≤ 32 ∧ m.wid ≤ 50 ∧
  ∀ (H' : Hp) (S' : Stm) (m' : MT), StmAt H' a c S' → (∀ b o, b ≠ a → b ≠ c → b ∉ m.lsa → H b = some o → H' b = some o) → isMd m' = true → m'.val = m.val → MAt Cs (fun _ => none) H' m' → m'.lsa.Nodup → m'.mds.Nodup → (∀ b ∈ m'.lsa, b ∈ m.lsa ∨ H b = none) → (∀ b ∈ m'.mds, b ∈ m.mds ∨ H b = none) → m'.mds.length ≤ 1132 → m'.hgt ≤ 51 → m'.wid ≤ 50 → S'.cnt ≤ S.cnt + 7930 → Q m'.val H'
end M4

namespace M4
open PySem PySem.Spec PyProof.Rows L2 StX TL
section
variable {P : Program} {w : World} {K : PySem.W.Frag} {mg : Str → Option Value} {base : Heap} {Cs : Nat → Addr}
theorem ok_be {f fD fM fP fO : Addr} {fd dD dM dP dO : FuncData} (F : Fun K "_law_bent" "_law_bent" sBe f fd) (Z : Blt mg)
    (D : FnOk P w K mg base CX0 1 fD dD ["_law_stream", "_law_many"] spDraw) (bD : Binds K dD ["_law_stream", "_law_many"] []) (kD : PySem.W.keepIn K (.ref fD) = true) (mD : mg "_law_draw" = some (.ref fD))
    (MO : FnOk P w K mg base CX0 34 fM dM ["_law_model_here"] (spMo Cs (fun _ => none) 33)) (bMO : Binds K dM ["_law_model_here"] []) (kMO : PySem.W.keepIn K (.ref fM) = true) (mMO : mg "_law_models" = some (.ref fM))
    (PK : FnOk P w K mg base CX0 2 fP dP ["_law_stream", "_law_some"] (spPick K)) (bPK : Binds K dP ["_law_stream", "_law_some"] []) (kPK : PySem.W.keepIn K (.ref fP) = true) (mPK : mg "_law_pick" = some (.ref fP))
    (OD : FnOk P w K mg base CX0 20 fO dO ["_law_stream"] (spOd Cs)) (bOD : Binds K dO ["_law_stream"] []) (kOD : PySem.W.keepIn K (.ref fO) = true) (mOD : mg "_law_odd_part" = some (.ref fO)) :
    FnOk P w K mg base CX0 35 f fd ["_law_stream", "_law_model_here"] (spBe Cs) := by
  refine F.ok scBe (fun vs H Q E h => ?_) (fun cdv A outer s H vs Q E hr h => ?_)
  · obtain ⟨a, c, S, m, rfl, _⟩ := h
    rfl
  obtain ⟨a, c, S, m, rfl, hS, hc, hmd, hm, nl, nd, na, nc, ln, ht, wd, q⟩ := h
  have hr1 := hr.mono (show 1 ≤ 34 by decide)
  have hr2 := hr.mono (show 2 ≤ 34 by decide)
  have hrO := hr.mono (show 20 ≤ 34 by decide)
  refine ⟨_, (C8.pss_cut (ps_setLc (i := 2) (own := [("_law_one", 3)]) (g := gName 3) (tt := _) rfl scBe.nd rfl rfl (sw_true rfl rfl rfl (by decide +kernel)) (pi_list (pe_call MO hr rfl mMO kMO bMO .nil pass0 (pa_cons (pv 1) pa_nil))) (blkOk_by (own := [("_law_one", 3)]) (N := ["_law_stream", "_law_model_here", "_law_some", "_law_one"]) (sc := (defScope sBe)) (by decide +kernel)) (fun _ _ _ _ _ => (pg_name (i := 3) scBe.nd rfl (.inl rfl))) (fun _ _ _ _ _ => pts_one (pt_cmpR (op_neE hr.units) (pe_dget (hu_of hr) (pv 3) pe_str (fun _ _ => rfl)) (pe_lst pa_nil) (nomark _))) (fun _ _ _ _ _ => (pv 3)))
    (pss_cons (ps_if (PW.pt (pw_and (pt_cmpR (op_neE hr.units) (pv 2) (pe_lst pa_nil) (nomark _)) (pw_and1 (pt_cmpR op_eq (pe_call D hr1 rfl mD kD bD .nil pass0 (pa_cons (pv 0) (pa_cons pe_int pa_nil))) pe_int (nomark _)))))
        (C8.pss_cut (ps_set (i := 3) scBe.nd rfl (.inl rfl) (pe_call PK hr2 rfl mPK kPK bPK .nil pass0 (pa_cons (pv 0) (pa_cons (pv 2) pa_nil))))
          (pss_one (ps_asg (pe_call OD hrO rfl mOD kOD bOD .nil pass0 (pa_cons (pv 0) pa_nil)) (pg_sub (pe_dget (hu_of hr) (pv 3) pe_str (fun _ _ => rfl)) (pe_call D hr1 rfl mD kD bD .nil pass0 (pa_cons (pv 0) (pa_cons (pe_callB call_len_seq rfl Z.ln PySem.boot_len (pa_cons (pe_dget (hu_of hr) (pv 3) pe_str (fun _ _ => rfl)) pa_nil)) pa_nil))) set_list)))) pss_nil)
    (pss_one (ps_ret (pv 1))))), ?_⟩
  obtain ⟨l, hms, hll⟩ := msN_ex 33 m hmd (by omega)
  have atl := msN_at 33 m l hms hm
  have zS : (1000000 : Nat) ≤ sizeLine := by decide
  have hna : ∀ {b : Addr}, H b = none → b ≠ a ∧ b ≠ c := fun {b} e => ⟨fun z => by rw [z, hS.lst] at e; exact (nomatch e), fun z => by rw [z, hS.cel] at e; exact (nomatch e)⟩
  refine ⟨fun σ H2 => ∃ (L : Addr) (ms : List MT), σ = [some (.ref a), some m.val, some (.ref L), none] ∧ Same H H2 ∧ H L = none ∧ H2 L = some (.lst (ms.map MT.val)) ∧ ms.length ≤ l.length ∧ ∀ x ∈ ms, x ∈ l ∧ ∃ d pl sp k p0 ps, x = .md d pl sp k (p0 :: ps), ?_, ?_⟩
  · refine ⟨_, rfl, m, l, rfl, hm, hms, by omega, fun H1 b nb s1 hb => ?_⟩
    refine ⟨b, rfl, ⟨_, SqL.of hb⟩, fun D nD => ?_⟩
    refine lc_list (K := K) (a := b) (xs := l.map MT.val) (fun j H5 => Same H1 H5 ∧ ∃ ms : List MT, H5 D = some (.lst (ms.map MT.val)) ∧ ms.length ≤ j ∧ ∀ x ∈ ms, x ∈ l ∧ ∃ d pl sp k p0 ps, x = .md d pl sp k (p0 :: ps)) ⟨same_new nD, [], upd_same, Nat.le_refl _, fun x hx => by exact (nomatch hx)⟩ (fun j H5 _ ⟨s5, _⟩ => SqL.of (s5 _ _ hb)) ?_ ?_
    · rintro j x H5 hx ⟨s5, ms, h5, lj, hms5⟩
      rw [List.getElem?_map] at hx
      obtain ⟨y, hy, rfl⟩ := Option.map_eq_some_iff.mp hx
      have hyl := List.mem_of_getElem? hy
      have hj := (List.getElem?_eq_some_iff.mp hy).1
      obtain ⟨ya, yd⟩ := atl y hyl
      have sx : Same H H5 := s1.trans s5
      cases y with
      | at_ _ => cases yd
      | ls _ _ => cases yd
      | tu _ _ => cases yd
      | md d pl sp k ps =>
      cases ya with
      | md h1 h2 h3 h4 h5' h6 h7 h8 =>
      have gp : DGet H5 d (.str "parts") (some (.ref pl)) := by
        have z := DGet.k (k := Sum.inr "parts") (sx _ _ h1)
        exact z
      refine ⟨rfl, _, rfl, d, _, rfl, gp, Nat.zero_le _, fun E nE => ?_⟩
      have s6 := same_new (o := .lst []) nE
      refine ⟨pl, E, _, rfl, rfl, s6 _ _ (sx _ _ h2), upd_same, _, rfl, ?_⟩
      cases ps with
      | nil => exact iteF ⟨s5.trans s6, ms, s6 _ _ h5, by omega, hms5⟩
      | cons p0 ps =>
        refine iteT ⟨_, rfl, _, s6 _ _ h5, by rw [List.length_map]; omega, ?_, ms ++ [.md d pl sp k (p0 :: ps)], ?_, by rw [List.length_append, List.length_singleton]; omega, fun x hx => ?_⟩
        · exact fun b' o e => by
            rw [upd_ne (ne_of_none e nD)]
            exact s6 _ _ (s5 _ _ e)
        · rw [upd_same, List.map_append]
          rfl
        · rcases List.mem_append.mp hx with hx | hx
          · exact hms5 x hx
          · rw [List.mem_singleton.mp hx]
            exact ⟨hyl, _, _, _, _, _, _, rfl⟩
    · rintro H5 ⟨s5, ms, h5, lj, hms5⟩
      rw [List.length_map] at lj
      exact ⟨D, ms, rfl, s1.trans s5, s1.free nD, h5, lj, hms5⟩
  rintro σ H2 ⟨L, ms, rfl, s2, nL, hL, lms, hms2⟩
  have hS2 := hS.keep s2
  have stB : ∀ b, (b = a ∨ b = c) → ∃ xs, H b = some (.lst xs) := fun b z => z.elim (fun z => ⟨_, z ▸ hS.lst⟩) fun z => ⟨_, z ▸ hS.cel⟩
  have hT : MAt Cs (fun _ => none) (res (fun b => b = a ∨ b = c) H) m := hm.noL stB fun b hb z => z.elim (fun z => na (z ▸ hb)) fun z => nc (z ▸ hb)
  have sT : ∀ {H3 : Hp}, (∀ b o, b ≠ a → b ≠ c → H b = some o → H3 b = some o) → Same (res (fun b => b = a ∨ b = c) H) H3 := fun k b o e => k b o (fun z => (res_at e).1 (.inl z)) (fun z => (res_at e).1 (.inr z)) (res_at e).2
  have done : ∀ (H3 : Hp) (S3 : Stm), StmAt H3 a c S3 → (∀ b o, b ≠ a → b ≠ c → H b = some o → H3 b = some o) → S3.cnt ≤ S.cnt + 7930 → Q m.val H3 := fun H3 S3 h3 k3 c3 =>
    q H3 S3 m h3 (fun b o n1 n2 n3 e => k3 b o n1 n2 e) hmd rfl (hT.up (sT k3)) nl nd (fun b hb => .inl hb) (fun b hb => .inl hb) (by omega) (by omega) wd c3
  refine ⟨_, rfl, Nat.zero_le _, fun E nE => ?_⟩
  have s3 := same_new (o := .lst []) nE
  have u3 : (upd H2 E (.lst [])) E = some (.lst []) := upd_same
  generalize upd H2 E (.lst []) = H3 at s3 u3
  have hS3 := hS2.keep s3
  refine ⟨L, E, _, rfl, rfl, s3 _ _ hL, u3, _, rfl, ?_⟩
  cases ms with
  | nil => exact iteF ⟨_, rfl, done H3 S hS3 (fun b o _ _ e => s3 _ _ (s2 _ _ e)) (by omega)⟩
  | cons m0 mr =>
  refine iteT ?_
  refine ⟨_, rfl, a, c, S, 2, rfl, hS3, by omega, by decide, by decide, fun H4 S4 r h4 c4 k4 r0 r1 => ⟨rfl, _, rfl, ?_⟩⟩
  have k04 : ∀ b o, b ≠ a → b ≠ c → H b = some o → H4 b = some o := fun b o n1 n2 e => k4 b o n1 n2 (s3 _ _ (s2 _ _ e))
  have La := hna nL
  refine ite2 (fun _ => ?_) fun _ => ⟨_, rfl, done H4 S4 h4 k04 (by omega)⟩
  refine ⟨fun σ H5 => ∃ (x : MT) (S5 : Stm), σ = [some (.ref a), some m.val, some (.ref L), some x.val] ∧ x ∈ m0 :: mr ∧ StmAt H5 a c S5 ∧ S5.cnt ≤ S.cnt + 2 ∧ (∀ b o, b ≠ a → b ≠ c → H b = some o → H5 b = some o), ?_, ?_⟩
  · refine ⟨_, rfl, _, rfl, a, c, L, S4, _, rfl, h4, by omega, k4 _ _ La.1 La.2 (s3 _ _ hL), La.1, La.2, by rw [List.length_map]; exact Nat.zero_lt_succ _, by rw [List.length_map]; omega, fun H5 S5 x h5 c5 k5 hx => ?_⟩
    obtain ⟨y, hy, rfl⟩ := List.mem_map.mp hx
    exact ⟨y, S5, rfl, hy, h5, by omega, fun b o n1 n2 e => k5 b o n1 n2 (k04 b o n1 n2 e)⟩
  rintro σ H5 ⟨x0, S5, rfl, hx0, hS5, c5, k5⟩
  obtain ⟨hxl, d, pl, sp, k, p0, ps, rfl⟩ := hms2 _ hx0
  have xat := (msN_at 33 m l hms hT _ hxl).1
  have psl : (p0 :: ps).length ≤ 7 := by
    cases xat with
    | md h1 h2 h3 h4 h5' h6 h7 h8 =>
      rw [h7]
      exact fields_len h6
  have gP : ∀ {H6 : Hp}, Same (res (fun b => b = a ∨ b = c) H) H6 → DGet H6 d (.str "parts") (some (.ref pl)) ∧ H6 pl = some (.lst ((p0 :: ps).map MT.val)) := fun sx => by
    cases xat with
    | md h1 h2 h3 h4 h5' h6 h7 h8 =>
      have z := DGet.k (k := Sum.inr "parts") (sx _ _ h1)
      exact ⟨z, sx _ _ h2⟩
  refine ⟨_, rfl, a, c, S5, rfl, hS5, by omega, fun H6 S6 x h6 k6 atx mdx lsx lnx htx wdx c6 => ?_⟩
  have k06 : ∀ b o, b ≠ a → b ≠ c → H b = some o → H6 b = some o := fun b o n1 n2 e => k6 b o n1 n2 (k5 b o n1 n2 e)
  obtain ⟨g6, p6⟩ := gP (sT k06)
  refine ⟨_, rfl, d, _, rfl, g6, _, rfl, _, rfl, d, _, rfl, g6, pl, _, rfl, .inl (SqL.of p6), a, c, S6, _, rfl, h6, by omega, ?_, ?_, fun H7 S7 r7 h7 c7 k7 r70 r71 => ?_⟩
  · rw [List.length_map, List.length_cons]
    omega
  · rw [List.length_map]
    omega
  have k07 : ∀ b o, b ≠ a → b ≠ c → H b = some o → H7 b = some o := fun b o n1 n2 e => k7 b o n1 n2 (k06 b o n1 n2 e)
  have s7 := sT k07
  obtain ⟨_, p7⟩ := gP s7
  obtain ⟨j, rfl⟩ : ∃ j : Nat, r7 = (j : Int) := ⟨r7.toNat, by omega⟩
  have hj : j < ((p0 :: ps).map MT.val).length := by omega
  refine ⟨pl, _, _, j, rfl, rfl, p7, ixN_natM hj, ?_⟩
  rw [show ((p0 :: ps).map MT.val).set j x.val = (((p0 :: ps).set j x).map MT.val) from (List.map_set ..).symm]
  -- the model then
  obtain ⟨m', cm⟩ := msN_chg 33 m l hms _ hxl (Chg.md (d := d) (sp := sp) (k := k) (a := pl) (xs := p0 :: ps) (ys := (p0 :: ps).set j x) (List.length_set ..))
  have plm : pl ∈ m.lsa := cm.in_
  obtain ⟨kx, _, nax⟩ := cm.kids hT nl
  have plH : ∃ us, H pl = some (.lst us) := hm.hasL pl plm
  obtain ⟨us, plH⟩ := plH
  have pla : pl ≠ a := fun z => na (z ▸ plm)
  have plc : pl ≠ c := fun z => nc (z ▸ plm)
  have newx : ∀ {b : Addr} {o : HO}, res (was H5) H6 b = some o → isI o = false → H b = none := fun {b o} e ni => by
    obtain ⟨nw, e6⟩ := res_at e
    cases hb : H b with
    | none => rfl
    | some u =>
      have n1 : b ≠ a := fun z => nw (z ▸ was_of hS5.lst)
      have n2 : b ≠ c := fun z => nw (z ▸ was_of hS5.cel)
      have h5 := k5 b u n1 n2 hb
      have e7 := k6 b u n1 n2 h5
      rw [e6] at e7
      cases e7
      exact absurd ⟨_, h5, ni⟩ nw
  have lsn : ∀ b ∈ x.lsa, H b = none := fun b hb => by
    obtain ⟨_, e⟩ := atx.hasL b hb
    exact newx e rfl
  have mdn : ∀ b ∈ x.mds, H b = none := fun b hb => by
    obtain ⟨_, e⟩ := atx.has b hb
    exact newx e rfl
  have lsd : ∀ b ∈ x.lsa, b ∉ m.lsa := fun b hb z => by
    obtain ⟨_, e⟩ := hm.hasL b z
    rw [lsn b hb] at e
    cases e
  have mdd : ∀ b ∈ x.mds, b ∉ m.mds := fun b hb z => by
    obtain ⟨_, e⟩ := hm.has b z
    rw [mdn b hb] at e
    cases e
  have at7 : MAt Cs (fun _ => none) H7 x := atx.up fun b o e => by
    obtain ⟨nw, e6⟩ := res_at e
    exact k7 b o (fun z => nw (z ▸ was_of hS5.lst)) (fun z => nw (z ▸ was_of hS5.cel)) e6
  have m7 := hT.up s7
  have fin := MAt.chg p7 (MAtL.set_ (at7.off p7 fun z => by rw [lsn pl z] at plH; cases plH) j ((kx.up s7).off p7 nax)) cm m7 nl
  obtain ⟨ly1, ly2⟩ := lsaL_set (x := x) lsx (ms := p0 :: ps) j ((Chg.sub cm).nodup nl) fun b hb z => lsd b hb (Chg.old cm b z)
  obtain ⟨nl', zl⟩ := Chg.lsa ly1 cm nl fun b hb => (ly2 b hb).imp id fun y => lsd b y
  obtain ⟨my1, my2⟩ := mdsL_setN (x := x) mdx (ms := p0 :: ps) j ((Chg.subM cm).nodup nd) fun b hb z => mdd b hb ((Chg.mds cm).2 b z)
  obtain ⟨nd', zd⟩ := Chg.mdsN my1 cm nd fun b hb => (my2 b hb).imp id fun y => mdd b y
  have sz := (Chg.size cm).2
  have ly : (mdsL ((p0 :: ps).set j x)).length ≤ (mdsL (p0 :: ps)).length + x.mds.length := mdsL_setLen j
  have hg := Chg.hgt_ (e := 19) (by have := hgtL_set (x := x) (ms := p0 :: ps) j; omega) cm
  have wd' := Chg.wid_ (e := 50) (by have := widL_set (x := x) (ms := p0 :: ps) j; have := Chg.widX cm; omega) (by rw [List.length_set]; omega) cm wd
  refine ⟨_, rfl, ?_⟩
  rw [← cm.val]
  refine q _ S7 m' ⟨by rw [upd_ne pla.symm]; exact h7.lst, by rw [upd_ne plc.symm]; exact h7.cel, h7.ne, h7.len, h7.cur0, h7.cnt0, h7.mix0, h7.mix1⟩ (fun b o n1 n2 n3 e => ?_) (cm.isMd_.trans hmd) cm.val fin nl' nd' (fun b hb => (zl b hb).elim .inl fun z => (ly2 b z).imp (Chg.old cm b) (lsn b)) (fun b hb => (zd b hb).elim .inl fun z => (my2 b z).imp ((Chg.mds cm).2 b) (mdn b)) (by omega) (by omega) wd' (by omega)
  rw [upd_ne (show b ≠ pl from fun z => n3 (z ▸ plm))]
  exact k07 b o n1 n2 e
end
end M4

namespace M4
open PySem PySem.Spec PyProof.Rows L2 StX TL
/-! ### what a made value holds, model by model -/
section
variable {K : PySem.W.Frag} {C : Addr} {Cs : Nat → Addr} {nd : Addr → Option Addr} {H S R : Hp}
theorem cst_noL (W : ValI K C Cs) {v : V} (h : Cst Cs R v) : nodeOf C R v = none ∧ isL R v = false := by
  cases h with
  | non => exact ⟨rfl, rfl⟩
  | bl b => exact ⟨rfl, rfl⟩
  | int i => exact ⟨rfl, rfl⟩
  | str x => exact ⟨rfl, rfl⟩
  | @obj j b dx fs hj h hf =>
    refine ⟨?_, ?_⟩
    · show nodeO C _ (R _) = none
      rw [h]
      exact if_neg (W.ne _ hj)
    · show isLO (R _) = false
      rw [h]
      rfl
theorem So.node (W : ValI K C Cs) : ∀ {m : MT} {v : V}, So C nd S R m v → MAt Cs nd R m → (nodeOf C R v).toList.map some = m.dict?.toList.map (fun x => nd x.adr)
  | _, _, .at_, .at_ h => by
    rw [(cst_noL W h).1]
    rfl
  | _, _, .ls (D := D) h hs, .ls _ _ _ => by
    rw [show nodeOf C R (.ref D) = none from by show nodeO C D (R D) = none; rw [h]; rfl]
    rfl
  | _, _, .tu (D := D) h hs, .tu _ _ _ => by
    rw [show nodeOf C R (.ref D) = none from by show nodeO C D (R D) = none; rw [h]; rfl]
    rfl
  | _, _, .md (p := p) h1 h2 h3 h4 h5 h6 hs, .md _ _ _ _ _ _ _ _ => by
    rw [show nodeOf C R (.ref p) = some p from by show nodeO C p (R p) = some p; rw [h2]; exact if_pos rfl]
    show [some p] = [nd _]
    exact congrArg (fun z => [z]) h1.symm
theorem SoL.nodes (W : ValI K C Cs) : ∀ {ms : List MT} {vs : List V}, SoL C nd S R ms vs → MAtL Cs nd R ms → (vs.filterMap (nodeOf C R)).map some = (ms.filterMap MT.dict?).map (fun x => nd x.adr)
  | _, _, .nil, .nil => rfl
  | m :: ms, v :: vs, .cons h hs, .cons g gs => by
    have e1 : (v :: vs).filterMap (nodeOf C R) = (nodeOf C R v).toList ++ vs.filterMap (nodeOf C R) := by
      rw [List.filterMap_cons]
      cases nodeOf C R v <;> rfl
    have e2 : (m :: ms).filterMap MT.dict? = m.dict?.toList ++ ms.filterMap MT.dict? := by
      rw [List.filterMap_cons]
      cases m.dict? <;> rfl
    rw [e1, e2, List.map_append, List.map_append, h.node W g, hs.nodes W gs]
theorem So.kids (W : ValI K C Cs) {m : MT} {v : V} (h : So C nd S R m v) (g : MAt Cs nd R m) : (kidsV C R v).map some = (below1 m).map (fun x => nd x.adr) := by
  have hn := h.node W g
  cases h with
  | at_ =>
    cases g with
    | at_ c =>
      rw [kidsV_one (cst_noL W c).2]
      exact hn
  | @ls a D ms xs h hs =>
    cases g with
    | ls _ _ gs =>
      rw [kidsV_lst h]
      exact hs.nodes W gs
  | @tu a D ms xs h hs =>
    rw [kidsV_one (by show isLO (R D) = false; rw [h]; rfl), show nodeOf C R (.ref D) = none from by show nodeO C D (R D) = none; rw [h]; rfl]
    rfl
  | @md d pl sp p dx dn k ps rs mm vs h1 h2 h3 h4 h5 h6 hs =>
    rw [kidsV_one (by show isLO (R p) = false; rw [h2]; rfl)]
    exact hn
theorem SoL.kids (W : ValI K C Cs) : ∀ {ms : List MT} {vs : List V}, SoL C nd S R ms vs → MAtL Cs nd R ms → (kidsL C R vs).map some = (belowM ms).map (fun x => nd x.adr)
  | _, _, .nil, .nil => rfl
  | m :: ms, v :: vs, .cons h hs, .cons g gs => by
    show (kidsV C R v ++ kidsL C R vs).map some = (below1 m ++ belowM ms).map (fun x => nd x.adr)
    rw [List.map_append, List.map_append, So.kids W h g, hs.kids W gs]
/-- every value is equal to itself -/
theorem So.flat {m : MT} {v : V} (h : So C nd S R m v) (g : MAt Cs nd H m) : EqY v v := by
  cases h with
  | at_ =>
    cases g with
    | at_ c =>
      cases c with
      | non => exact .non
      | bl b => exact .bl b
      | int i => exact .int i
      | str x => exact .str x
      | obj _ _ _ => exact .ref _
  | ls _ _ => exact .ref _
  | tu _ _ => exact .ref _
  | md _ _ _ _ _ _ _ => exact .ref _
theorem eqZL_of : ∀ {xs ys : List V}, xs.length = ys.length → (∀ (i : Nat) x y, xs[i]? = some x → ys[i]? = some y → EqZ H x y) → EqZL H xs ys
  | [], [], _, _ => .nil
  | x :: xs, y :: ys, e, h => .cons (h 0 x y rfl rfl) (eqZL_of (Nat.succ.inj e) fun i a b h1 h2 => h (i + 1) a b h1 h2)
  | [], _ :: _, e, _ => by cases e
  | _ :: _, [], e, _ => by cases e
theorem eqZL_refs (l : List Addr) : EqZL H (l.map V.ref) (l.map V.ref) :=
  eqZL_of rfl fun i x y h1 h2 => by
    rw [h1] at h2
    cases h2
    rw [List.getElem?_map] at h1
    obtain ⟨b, _, rfl⟩ := Option.map_eq_some_iff.mp h1
    exact .flat (.ref b)
/-! ### all models of a model: where they stand, what was made of them -/
theorem SoL.one : ∀ {ms : List MT} {vs : List V}, SoL C nd S R ms vs → ∀ y ∈ ms, ∃ v, So C nd S R y v
  | _, _, .cons h hs, y, hy => by
    rcases List.mem_cons.mp hy with rfl | hy
    · exact ⟨_, h⟩
    · exact hs.one y hy
theorem SoL.belowX {ms : List MT} {vs : List V} (h : SoL C nd S R ms vs) : ∀ y ∈ belowM ms, ∃ v, So C nd S R y v := by
  intro y hy
  obtain ⟨m, hm, hn⟩ := List.mem_flatMap.mp hy
  obtain ⟨v, g⟩ := h.one m hm
  cases m with
  | md d pl sp k qs =>
    have e : y = .md d pl sp k qs := List.mem_singleton.mp hn
    rw [e]
    exact ⟨v, g⟩
  | at_ v => cases hn
  | ls a qs =>
    obtain ⟨x, hx, e⟩ := List.mem_filterMap.mp hn
    obtain ⟨rfl, _⟩ := dict_of e
    cases g with
    | ls _ gs => exact gs.one _ hx
  | tu a qs => cases hn
theorem msN_so : ∀ (n : Nat) (m : MT) (l : List MT) (v : V), MsN n m l → So C nd S R m v → ∀ x ∈ l, ∃ u, So C nd S R x u
  | 0, _, _, _, h, _, _, _ => h.elim
  | n + 1, m, l, v, h, g, x, hx => by
    obtain ⟨d, pl, sp, k, ps, ls, rfl, rfl, al⟩ := h
    rcases List.mem_cons.mp hx with rfl | hx
    · exact ⟨_, g⟩
    · obtain ⟨y, ly, z1, z2, z3⟩ := all2_mem al x hx
      cases g with
      | md _ _ _ _ _ _ hs =>
        obtain ⟨u, gu⟩ := hs.belowX y z1
        exact msN_so n y ly u z2 gu x z3
/-- the walk of what was made -/
theorem So.walk (W : ValI K C Cs) (Ni : NodeI K C) {m : MT} {v : V} (h : So C nd S R m v) (g : MAt Cs nd R m) (hm : isMd m = true) :
    ∃ p nl, v = .ref p ∧ Tr K C R p nl ∧ ∀ n l, MsN n m l → l.map (fun x => nd x.adr) = nl.map some := by
  obtain ⟨⟨it, nl, t, f⟩, _⟩ := h.ivp W Ni g
  cases h with
  | at_ => cases hm
  | ls _ _ => cases hm
  | tu _ _ => cases hm
  | @md d pl sp p dx dn k ps rs mm vs h1 h2 h3 h4 h5 h6 hs =>
    rw [show nodeOf C R (.ref p) = some p from by show nodeO C p (R p) = some p; rw [h2]; exact if_pos rfl] at t
    cases t with
    | @cons _ l _ ls t ts =>
      cases ts
      rw [List.append_nil] at f
      refine ⟨p, l, rfl, t, fun n l' hl => ?_⟩
      have z := f n (l' ++ []) (.cons hl .nil)
      rw [List.append_nil] at z
      exact z
/-- the node that a model keeps -/
theorem MAt.nodeD {m : MT} {q : Addr} (h : MAt Cs nd H m) (hm : isMd m = true) (e : nd m.adr = some q) : ∃ d, m.val = .ref d ∧ DGet H d (.str "node") (some (.ref q)) := by
  cases h with
  | @md d pl sp k ps xs h1 h2 h3 h4 h5 h6 h7 h8 =>
    have e : nd d = some q := e
    refine ⟨d, rfl, ?_⟩
    have z := DGet.k (k := Sum.inr "node") h1
    rw [show valV (mdKv k pl sp (nd d)) (Sum.inr "node") = some (V.ref q) from by rw [e]; rfl] at z
    exact z
  | at_ _ => cases hm
  | ls _ _ _ => cases hm
  | tu _ _ _ => cases hm
end
end M4

namespace M4
open PySem PySem.Spec PyProof.Rows L2 StX TL RZ
/-! ### _law_told_right -/
abbrev sTd : Stmt := topS 43
theorem scTd : FnScope ["_law_made", "_law_model_here", "_law_due", "_law_again", "_law_found", "_law_one", "_law_names", "_law_name", "_law_what", "_law_child", "_law_pair"] ["_law_made", "_law_model_here"] (defScope sTd) := ⟨rfl, rfl, rfl, by decide +kernel, rfl, by decide +kernel, by decide +kernel⟩
def spTd (C : Addr) (Cs : Nat → Addr) : Sp := fun vs H Q _ => ∃ (nd : Addr → Option Addr) (m : MT) (v : V), vs = [v, m.val] ∧ isMd m = true ∧ MAt Cs nd H m ∧ So C nd H H m v ∧ m.hgt ≤ 102 ∧ m.mds.length ≤ 90000 ∧ ∀ H', Same H H' → Q (.bl true) H'
section
variable {P : Program} {w : World} {K : PySem.W.Frag} {mg : Str → Option Value} {base : Heap} {C : Addr} {Cs : Nat → Addr}
theorem ok_td {f fMO fBL fFD fIS fWK fIC fIF fG fS : Addr} {fd dMO dBL dFD dIS dWK dIC dIF dG : FuncData} (F : Fun K "_law_told_right" "_law_told_right" sTd f fd) (Z : Blt mg) (zA : mg "all" = none) (W : ValI K C Cs) (Ni : NodeI K C) (Nc : NodeC K C fG fS)
    (GT : FnOk P w K mg base CX0 1 fG dG ["self", "at"] (spGet C)) (bG : Binds K dG ["self", "at"] [])
    (MO : ∀ nd, FnOk P w K mg base CX0 104 fMO dMO ["_law_model_here"] (spMo Cs nd 103)) (bMO : Binds K dMO ["_law_model_here"] []) (kMO : PySem.W.keepIn K (.ref fMO) = true) (mMO : mg "_law_models" = some (.ref fMO))
    (BL : ∀ nd, FnOk P w K mg base CX0 1 fBL dBL ["_law_model_here"] (spBl Cs nd)) (bBL : Binds K dBL ["_law_model_here"] []) (kBL : PySem.W.keepIn K (.ref fBL) = true) (mBL : mg "_law_below" = some (.ref fBL))
    (FD : FnOk P w K mg base CX0 3 fFD dFD ["_law_kind"] spFd) (bFD : Binds K dFD ["_law_kind"] []) (kFD : PySem.W.keepIn K (.ref fFD) = true) (mFD : mg "_law_fields" = some (.ref fFD))
    (IS : FnOk P w K mg base CX0 208 fIS dIS ["_law_node_here", "_law_model_here"] (spIs C Cs 102)) (bIS : Binds K dIS ["_law_node_here", "_law_model_here"] []) (kIS : PySem.W.keepIn K (.ref fIS) = true) (mIS : mg "_law_is_so" = some (.ref fIS))
    (WK : FnOk P w K mg base CX0 4 fWK dWK ["node"] (spWk K C)) (bWK : Binds K dWK ["node"] []) (kWK : PySem.W.keepIn K (.ref fWK) = true) (mWK : mg "walk" = some (.ref fWK))
    (IC : FnOk P w K mg base CX0 3 fIC dIC ["node"] (spIC K C)) (bIC : Binds K dIC ["node"] []) (kIC : PySem.W.keepIn K (.ref fIC) = true) (mIC : mg "iter_child_nodes" = some (.ref fIC))
    (IF : FnOk P w K mg base CX0 3 fIF dIF ["node"] (spIF C)) (bIF : Binds K dIF ["node"] []) (kIF : PySem.W.keepIn K (.ref fIF) = true) (mIF : mg "iter_fields" = some (.ref fIF)) :
    FnOk P w K mg base CX0 209 f fd ["_law_made", "_law_model_here"] (spTd C Cs) := by
  refine F.ok scTd (fun vs H Q E h => ?_) (fun cdv A outer s H us Q E hr h => ?_)
  · obtain ⟨nd, m, v, rfl, _⟩ := h
    rfl
  obtain ⟨nd, m, v, rfl, hmd, hm, hs, hh, hl, q⟩ := h
  have hrM := hr.mono (show 104 ≤ 208 by decide)
  have hr1 := hr.mono (show 2 ≤ 208 by decide)
  have hr0 := hr.mono (show 1 ≤ 208 by decide)
  have hr3 := hr.mono (show 3 ≤ 208 by decide)
  have hr4 := hr.mono (show 4 ≤ 208 by decide)
  have isiK : ∀ X : Cx, X.K = K → CallR X (.builtin "isinstance") (rIsi K) := fun X e => e ▸ call_isi
  refine ⟨_, (C8.pss_cut (ps_setLc (i := 2) (own := [("_law_one", 5)]) (g := gName 5) (tt := tYes) rfl scTd.nd rfl rfl (sw_true rfl rfl rfl (by decide +kernel)) (pi_list (pe_call (MO nd) hrM rfl mMO kMO bMO .nil pass0 (pa_cons (pv 1) pa_nil))) (blkOk_by (own := [("_law_one", 5)]) (N := ["_law_made", "_law_model_here", "_law_due", "_law_again", "_law_found", "_law_one", "_law_names", "_law_name", "_law_what", "_law_child", "_law_pair"]) (sc := (defScope sTd)) (by decide +kernel)) (fun _ _ _ _ _ => (pg_name (i := 5) scTd.nd rfl (.inl rfl))) (fun _ _ _ _ _ => pts_nil) (fun _ _ _ _ _ => (pe_dget (hu_of hr) (pv 5) pe_str (fun _ _ => rfl))))
    (pss_cons (ps_for PassesOwn.never rfl (pi_range1 (by rfl) Z.rg (pa_cons pe_int pa_nil)) (pg_name (i := 3) scTd.nd rfl (.inl rfl)) (pss_cons (ps_set (i := 4) scTd.nd rfl (.inl rfl) (pe_call WK hr4 rfl mWK kWK bWK .nil pass0 (pa_cons (pv 0) pa_nil)))
    (C8.pss_cut (ps_if (PW.pt (pw_or (pt_cmpR (op_neL hr.units) (pv 4) (pv 2) (nomark _)) (pw_or1 (pt_not (pt_val (pe_callB call_isi (by rfl) Z.isI (by decide +kernel) (pa_cons (pv 4) (pa_cons (pe_bltn (v := .ty "list") (by rfl) Z.ls (by decide +kernel) rfl) pa_nil)))))))) (pss_one (ps_ret pe_bl)) pss_nil)
    (pss_one (ps_expr (pe_bm0 PySem.F.plainAttrs_list PySem.F.slot_list_clear PySem.F.type_list_clear mt_clear (pv 4)))))))
    (pss_cons (ps_for PassesOwn.never rfl (pi_list (pe_call (MO nd) hrM rfl mMO kMO bMO .nil pass0 (pa_cons (pv 1) pa_nil))) (pg_name (i := 5) scTd.nd rfl (.inr rfl)) (pss_cons (ps_set (i := 4) scTd.nd rfl (.inl rfl) (pe_call IC hr3 rfl mIC kIC bIC .nil pass0 (pa_cons (pe_dget (hu_of hr) (pv 5) pe_str (fun _ _ => rfl)) pa_nil)))
    (C8.pss_cut (ps_if (PW.pt (pw_or (pt_cmpR (op_neL hr.units) (pv 4) (pe_lc (own := [("_law_child", 9)]) (g := gName 9) (tt := tYes) rfl scTd.nd (pi_list (pe_call (BL nd) hr0 rfl mBL kBL bBL .nil pass0 (pa_cons (pv 5) pa_nil))) (blkOk_by (own := [("_law_child", 9)]) (N := ["_law_made", "_law_model_here", "_law_due", "_law_again", "_law_found", "_law_one", "_law_names", "_law_name", "_law_what", "_law_child", "_law_pair"]) (sc := (defScope sTd)) (by decide +kernel)) (fun _ _ _ _ _ => (pg_name (i := 9) scTd.nd rfl (.inl rfl))) (fun _ _ _ _ _ => pts_nil) (fun _ _ _ _ _ => (pe_dget (hu_of hr) (pv 9) pe_str (fun _ _ => rfl)))) (nomark _)) (pw_or1 (pt_not (pt_val (pe_callB call_isi (by rfl) Z.isI (by decide +kernel) (pa_cons (pv 4) (pa_cons (pe_bltn (v := .ty "list") (by rfl) Z.ls (by decide +kernel) rfl) pa_nil)))))))) (pss_one (ps_ret pe_bl)) pss_nil)
    (pss_cons (ps_expr (pe_bm PySem.F.plainAttrs_list PySem.F.slot_list_append PySem.F.type_list_append mt_append (pv 4) (pa_cons pe_int pa_nil)))
    (C8.pss_cut (ps_setLc (i := 6) (own := [("_law_name", 7), ("_law_what", 8)]) (g := gTup K 2 (gCons (gName 7) (gCons (gName 8) (gNil)))) (tt := tYes) rfl scTd.nd rfl rfl (sw_true rfl rfl rfl (by decide +kernel)) (pi_list (pe_call FD hr3 rfl mFD kFD bFD .nil pass0 (pa_cons (pe_dget (hu_of hr) (pv 5) pe_str (fun _ _ => rfl)) pa_nil))) (blkOk_by (own := [("_law_name", 7), ("_law_what", 8)]) (N := ["_law_made", "_law_model_here", "_law_due", "_law_again", "_law_found", "_law_one", "_law_names", "_law_name", "_law_what", "_law_child", "_law_pair"]) (sc := (defScope sTd)) (by decide +kernel)) (fun _ _ _ _ _ => (pg_tup (by rfl) (pgs_cons (pg_name (i := 7) scTd.nd rfl (.inl rfl)) (pgs_cons (pg_name (i := 8) scTd.nd rfl (.inl rfl)) pgs_nil)))) (fun _ _ _ _ _ => pts_nil) (fun _ _ _ _ _ => (pv 7)))
    (pss_cons (ps_set (i := 4) scTd.nd rfl (.inl rfl) (pe_call IF hr3 rfl mIF kIF bIF .nil pass0 (pa_cons (pe_dget (hu_of hr) (pv 5) pe_str (fun _ _ => rfl)) pa_nil)))
    (C8.pss_cut (ps_if (PW.pt (pw_or (pt_cmpR (op_neL hr.units) (pv 4) (pe_lc (own := [("_law_name", 7)]) (g := gName 7) (tt := tYes) rfl scTd.nd (pi_list (pv 6)) (blkOk_by (own := [("_law_name", 7)]) (N := ["_law_made", "_law_model_here", "_law_due", "_law_again", "_law_found", "_law_one", "_law_names", "_law_name", "_law_what", "_law_child", "_law_pair"]) (sc := (defScope sTd)) (by decide +kernel)) (fun _ _ _ _ _ => (pg_name (i := 7) scTd.nd rfl (.inl rfl))) (fun _ _ _ _ _ => pts_nil) (fun _ _ _ _ _ => (pe_tup (pa_cons (pv 7) (pa_cons (ixnK (K := K) rfl Nc GT bG hr1 (pe_dget (hu_of hr) (pv 5) pe_str (fun _ _ => rfl)) (pv 7)) pa_nil))))) (nomark _)) (pw_or1 (pt_not (pt_val (pe_callB call_isi (by rfl) Z.isI (by decide +kernel) (pa_cons (pv 4) (pa_cons (pe_bltn (v := .ty "list") (by rfl) Z.ls (by decide +kernel) rfl) pa_nil)))))))) (pss_one (ps_ret pe_bl)) pss_nil)
    (C8.pss_cut (ps_if (PW.pt (pw_or (pt_not (pt_val (pe_callB (cr_all rfl) (by rfl) zA (by decide +kernel) (pa_cons (pe_lc (own := [("_law_pair", 10)]) (g := gName 10) (tt := tYes) rfl scTd.nd (pi_list (pv 4)) (blkOk_by (own := [("_law_pair", 10)]) (N := ["_law_made", "_law_model_here", "_law_due", "_law_again", "_law_found", "_law_one", "_law_names", "_law_name", "_law_what", "_law_child", "_law_pair"]) (sc := (defScope sTd)) (by decide +kernel)) (fun _ _ _ _ _ => (pg_name (i := 10) scTd.nd rfl (.inl rfl))) (fun _ _ _ _ _ => pts_nil) (fun _ _ _ _ _ => (pe_callB (isiK _ rfl) (by rfl) Z.isI (by decide +kernel) (pa_cons (pv 10) (pa_cons (pe_bltn (v := .ty "tuple") (by rfl) Z.tp (by decide +kernel) rfl) pa_nil))))) pa_nil)))) (pw_or1 (pt_cmpR (op_neL hr.units) (pe_call IF hr3 rfl mIF kIF bIF .nil pass0 (pa_cons (pe_dget (hu_of hr) (pv 5) pe_str (fun _ _ => rfl)) pa_nil)) (pv 4) (nomark _))))) (pss_one (ps_ret pe_bl)) pss_nil)
    (pss_one (ps_expr (pe_bm0 PySem.F.plainAttrs_list PySem.F.slot_list_clear PySem.F.type_list_clear mt_clear (pv 4))))))))))))
    (pss_one (ps_ret (pe_and (pe_call IS hr rfl mIS kIS bIS .nil pass0 (pa_cons (pv 0) (pa_cons (pv 1) pa_nil))) (pe_one (pe_cmpR (op_eqL hr.units) (pe_call WK hr4 rfl mWK kWK bWK .nil pass0 (pa_cons (pv 0) pa_nil)) (pv 2) (nomark _))))))))), ?_⟩
  obtain ⟨l, hms, hll⟩ := msN_ex 103 m hmd (by omega)
  have atl := msN_at 103 m l hms hm
  have sol := msN_so 103 m l v hms hs
  obtain ⟨p, nl, rfl, tr, fl⟩ := hs.walk W Ni hm hmd
  have enl := fl 103 l hms
  have lnl : nl.length = l.length := by
    have z := congrArg List.length enl
    rw [List.length_map, List.length_map] at z
    exact z.symm
  have zS : (100000 : Nat) ≤ sizeLine := by decide
  have fls : ∀ {H3 : Hp} {D : Addr} {us : List V}, H3 D = some (.lst us) → TyX K H3 (.ref D) (.type "list") := fun h => .base (.lst h)
  refine ⟨fun σ H1 => ∃ D, σ = [some (.ref p), some m.val, some (.ref D), none, none, none, none, none, none, none, none] ∧ Same H H1 ∧ H1 D = some (.lst (nl.map V.ref)), ?_, ?_⟩
  · refine ⟨_, rfl, m, l, rfl, hm, hms, by omega, fun H1 b nb s1 hb => ?_⟩
    refine ⟨b, rfl, ⟨_, SqL.of hb⟩, fun D nD => ?_⟩
    refine lc_list (K := K) (a := b) (xs := l.map MT.val) (fun j H5 => Same H1 H5 ∧ H5 D = some (.lst ((nl.take j).map V.ref))) ⟨same_new nD, upd_same⟩ (fun j H5 _ ⟨s5, _⟩ => SqL.of (s5 _ _ hb)) ?_ ?_
    · rintro j x H5 hx ⟨s5, h5⟩
      rw [List.getElem?_map] at hx
      obtain ⟨y, hy, rfl⟩ := Option.map_eq_some_iff.mp hx
      have hj := (List.getElem?_eq_some_iff.mp hy).1
      obtain ⟨ya, yd⟩ := atl y (List.mem_of_getElem? hy)
      obtain ⟨qn, hqn⟩ : ∃ qn, nl[j]? = some qn := ⟨_, List.getElem?_eq_getElem (by omega)⟩
      have eq1 : nd y.adr = some qn := by
        have z := congrArg (fun r : List (Option Addr) => r[j]?) enl
        simp only [List.getElem?_map, hy, hqn, Option.map_some] at z
        exact Option.some.inj z
      obtain ⟨d, ed, gN⟩ := (ya.up (s1.trans s5)).nodeD yd eq1
      refine ⟨rfl, ?_⟩
      unfold tYes
      refine iteT ⟨_, rfl, d, _, ed, gN, _, h5, by rw [List.length_map, List.length_take]; omega, fun c o e => ?_, ?_⟩
      · rw [upd_ne (ne_of_none e nD)]
        exact s5 _ _ e
      · rw [upd_same, List.take_succ, hqn, List.map_append]
        rfl
    · rintro H5 ⟨s5, h5⟩
      rw [List.length_map, ← lnl, List.take_length] at h5
      exact ⟨D, rfl, s1.trans s5, h5⟩
  rintro σ H1 ⟨D, rfl, s1, hD⟩
  -- the walk, twice
  refine ⟨2, rfl, by decide, by decide, for_range (lo := 0) (n := 2) (fun i σ H' => ∃ x3 x4 : Option V, σ = [some (.ref p), some m.val, some (.ref D), x3, x4, none, none, none, none, none, none] ∧ Same H1 H') ⟨none, none, rfl, fun _ _ e => e⟩ ?_ ?_⟩
  · rintro i σ H2 hi ⟨x3, x4, rfl, s2⟩
    refine ⟨_, rfl, p, nl, rfl, tr.up (s1.trans s2), by omega, fun H3 F nF s3 hF => ?_⟩
    have s13 := s2.trans s3
    refine ⟨fun σ H4 => σ = [some (.ref p), some m.val, some (.ref D), some (.int (0 + (i : Nat))), some (.ref F), none, none, none, none, none, none] ∧ H4 = H3, ?_, ?_⟩
    · refine ⟨_, rfl, _, rfl, F, D, _, _, rfl, rfl, hF, s13 _ _ hD, eqZL_refs nl, _, rfl, iteF ?_⟩
      exact ⟨_, rfl, .ref F, .ty "list", _, _, _, rfl, .ty _, fls hF, lst_in, _, rfl, iteF ⟨rfl, rfl⟩⟩
    rintro σ H4 ⟨rfl, rfl⟩
    refine ⟨_, rfl, .inl ⟨rfl, _, SqL.of hF⟩, F, _, rfl, rfl, hF, _, _, rfl, fun b o e => ?_⟩
    rw [upd_ne (ne_of_none (s2 _ _ e) nF)]
    exact s13 _ _ e
  rintro σ H2 ⟨x3, x4, rfl, s12⟩
  have s2 := s1.trans s12
  -- each of the models
  refine ⟨_, rfl, m, l, rfl, hm.up s2, hms, by omega, fun H3 b nb s23 hb => ?_⟩
  have s3 := s2.trans s23
  refine ⟨b, rfl, ⟨_, SqL.of hb⟩, ?_⟩
  refine for_list (K := K) (a := b) (xs := l.map MT.val) (fun i σ H' => ∃ x3 x4 x5 x6 : Option V, σ = [some (.ref p), some m.val, some (.ref D), x3, x4, x5, x6, none, none, none, none] ∧ Same H3 H')
    ⟨x3, x4, none, none, rfl, fun _ _ e => e⟩ (fun i σ H' _ ⟨_, _, _, _, _, k⟩ => SqL.of (k _ _ hb)) ?_ ?_
  · rintro i x σ H4 hx ⟨x3, x4, x5, x6, rfl, s34⟩
    rw [List.getElem?_map] at hx
    obtain ⟨y, hy, rfl⟩ := Option.map_eq_some_iff.mp hx
    obtain ⟨ya, yd⟩ := atl y (List.mem_of_getElem? hy)
    obtain ⟨u, yso⟩ := sol y (List.mem_of_getElem? hy)
    have s4 := s3.trans s34
    have yso4 := yso.same ya s4
    have ya4 := ya.up s4
    cases yso4 with
    | at_ => cases yd
    | ls _ _ => cases yd
    | tu _ _ => cases yd
    | @md d pl sp p' dx dn kd ps rs mm vs g1 g2 g3 row hvl g6 sl =>
    cases ya4 with
    | @md _ _ _ _ _ sx h1 h2 h3 h4 h5 h6 h7 h8 =>
    obtain ⟨okr, same⟩ := fields_row row
    have rl := sameRow_len same
    have hs7 := rows_small row
    have hnn := rows_nodup row
    have nln : (namesOf rs).length = rs.length := by unfold namesOf; rw [List.length_map]
    have lps : ps.length = rs.length := by omega
    have vlus := (sl.ivp W Ni h8).2.all
    have gN : ∀ {H6 : Hp}, Same H4 H6 → DGet H6 d (.str "node") (some (.ref p')) := fun s => by
      have z := DGet.k (k := Sum.inr "node") (s _ _ h1)
      rw [show valV (mdKv kd pl sp (nd d)) (Sum.inr "node") = some (V.ref p') from by rw [g1]; rfl] at z
      exact z
    have gK : ∀ {H6 : Hp}, Same H4 H6 → DGet H6 d (.str "kind") (some (.str kd)) := fun s => by
      have z := DGet.k (k := Sum.inr "kind") (s _ _ h1)
      rw [show valV (mdKv kd pl sp (nd d)) (Sum.inr "kind") = some (V.str kd) from by unfold mdKv; cases nd d <;> rfl] at z
      exact z
    -- the children
    refine ⟨_, rfl, d, _, rfl, gN (fun _ _ e => e), p', kd, vs, rfl, ⟨dx, dn, mm, rs, g2, g3, row, hvl⟩, vlus, fun H5 F nF s5 hF => ?_⟩
    have kidsN := sl.kids W h8
    have lkn : (kidsL C H4 vs).length = (belowM ps).length := by
      have z := congrArg List.length kidsN
      rwa [List.length_map, List.length_map] at z
    have blen := belowM_len (ps := ps) fun x hx => h8.mem x hx
    refine ⟨fun σ H6 => σ = [some (.ref p), some m.val, some (.ref D), x3, some (.ref F), some (.ref d), x6, none, none, none, none] ∧ Same H5 H6, ?_, ?_⟩
    · refine ⟨_, rfl, _, rfl, d, pl, sp, kd, ps, rfl, .md (s5 _ _ h1) (s5 _ _ h2) (s5 _ _ h3) h4 h5 h6 h7 (h8.up s5), fun H6 B nB s6 hB => ?_⟩
      refine ⟨B, rfl, ⟨_, SqL.of hB⟩, fun G nG => ?_⟩
      have s46 : Same H4 H6 := s5.trans s6
      refine lc_list (K := K) (a := B) (xs := (belowM ps).map MT.val) (fun j H7 => Same H6 H7 ∧ H7 G = some (.lst (((kidsL C H4 vs).take j).map V.ref))) ⟨same_new nG, upd_same⟩ (fun j H7 _ ⟨s7, _⟩ => SqL.of (s7 _ _ hB)) ?_ ?_
      · rintro j x H7 hx ⟨s7, h7'⟩
        rw [List.getElem?_map] at hx
        obtain ⟨z, hz, rfl⟩ := Option.map_eq_some_iff.mp hx
        have hj := (List.getElem?_eq_some_iff.mp hz).1
        obtain ⟨qn, hqn⟩ : ∃ qn, (kidsL C H4 vs)[j]? = some qn := ⟨_, List.getElem?_eq_getElem (by omega)⟩
        have eq1 : nd z.adr = some qn := by
          have w := congrArg (fun r : List (Option Addr) => r[j]?) kidsN
          simp only [List.getElem?_map, hz, hqn, Option.map_some] at w
          exact (Option.some.inj w).symm
        have zat := dict_mem (fun m hm => h8.mem m hm) z (List.mem_of_getElem? hz)
        obtain ⟨dz, ed, gz⟩ := (zat.up (s46.trans s7)).nodeD (belowM_hgt (List.mem_of_getElem? hz)).1 eq1
        refine ⟨rfl, ?_⟩
        unfold tYes
        refine iteT ⟨_, rfl, dz, _, ed, gz, _, h7', by rw [List.length_map, List.length_take]; omega, fun c o e => ?_, ?_⟩
        · rw [upd_ne (ne_of_none e nG)]
          exact s7 _ _ e
        · rw [upd_same, List.take_succ, hqn, List.map_append]
          rfl
      · rintro H7 ⟨s7, h7'⟩
        rw [List.length_map, ← lkn, List.take_length] at h7'
        have s57 : Same H5 H7 := s6.trans s7
        refine ⟨F, G, _, _, rfl, rfl, s57 _ _ hF, h7', eqZL_refs _, _, rfl, iteF ?_⟩
        exact ⟨_, rfl, .ref F, .ty "list", _, _, _, rfl, .ty _, fls (s57 _ _ hF), lst_in, _, rfl, iteF ⟨rfl, s57⟩⟩
    rintro σ H6 ⟨rfl, s56⟩
    have hF6 := s56 _ _ hF
    refine ⟨_, rfl, .inl ⟨rfl, _, SqL.of hF6⟩, F, _, _, rfl, rfl, hF6, by rw [List.length_map]; omega, ?_⟩
    have s47 : Same H4 (upd H6 F (.lst ((kidsL C H4 vs).map V.ref ++ [.int 0]))) := fun b o e => by
      rw [upd_ne (ne_of_none e nF)]
      exact s56 _ _ (s5 _ _ e)
    generalize upd H6 F (.lst ((kidsL C H4 vs).map V.ref ++ [.int 0])) = H7 at s47 ⊢
    -- the names
    refine ⟨fun σ H8 => ∃ N, σ = [some (.ref p), some m.val, some (.ref D), x3, some (.ref F), some (.ref d), some (.ref N), none, none, none, none] ∧ Same H4 H8 ∧ H8 N = some (.lst ((namesOf rs).map V.str)), ?_, ?_⟩
    · refine ⟨_, rfl, d, _, rfl, gK s47, kd, rfl, okr, fun H8 fl s8 fa => ?_⟩
      obtain ⟨nfl, as, hfl, las, hat⟩ := fa
      have s48 : Same H4 H8 := s47.trans s8
      refine ⟨fl, rfl, ⟨_, SqL.of hfl⟩, fun N nN => ?_⟩
      refine lc_list (K := K) (a := fl) (xs := as.map V.ref) (fun j H9 => Same H8 H9 ∧ H9 N = some (.lst (((namesOf rs).take j).map V.str))) ⟨same_new nN, upd_same⟩ (fun j H9 _ ⟨s9, _⟩ => SqL.of (s9 _ _ hfl)) ?_ ?_
      · rintro j x H9 hx ⟨s9, h9⟩
        rw [List.getElem?_map] at hx
        obtain ⟨b, hb, rfl⟩ := Option.map_eq_some_iff.mp hx
        have hj := (List.getElem?_eq_some_iff.mp hb).1
        obtain ⟨fp, hfp⟩ : ∃ fp, (fieldsP kd)[j]? = some fp := ⟨_, List.getElem?_eq_getElem (by omega)⟩
        obtain ⟨nb, hb3⟩ := hat j b fp hb hfp
        obtain ⟨nm, hd', r, rfl, hr', enm⟩ := sameRow_at same hfp
        have hnm : (namesOf rs)[j]? = some nm := by
          unfold namesOf
          rw [List.getElem?_map, hr', ← enm]
          rfl
        refine ⟨b, _, rfl, SqT.of (s9 _ _ hb3), rfl, _, _, rfl, _, _, rfl, rfl, rfl, ?_⟩
        unfold tYes
        refine iteT ?_
        refine ⟨_, rfl, _, h9, ?_, fun c o e => ?_, ?_⟩
        · rw [List.length_map, List.length_take]
          omega
        · rw [upd_ne (ne_of_none e nN)]
          exact s9 _ _ e
        · rw [upd_same, List.take_succ, hnm, List.map_append]
          rfl
      · rintro H9 ⟨s9, h9⟩
        rw [List.length_map, show as.length = (namesOf rs).length by omega, List.take_length] at h9
        exact ⟨N, rfl, s48.trans s9, h9⟩
    rintro σ H8 ⟨N, rfl, s48, hN⟩
    -- the fields
    refine ⟨_, rfl, d, _, rfl, gN s48, p', dx, dn, kd, mm, rs, vs, rfl, s48 _ _ g2, s48 _ _ g3, row, hvl, fun H9 F2 ts s9 nF2 hF2 lts hts => ?_⟩
    have s49 := s48.trans s9
    -- what two lists of the fields have in common
    have same2 : ∀ {Hx : Hp} {ts ts' : List Addr}, Same H4 Hx → ts.length = rs.length → ts'.length = rs.length → (∀ (i : Nat) t nm v, ts[i]? = some t → (namesOf rs)[i]? = some nm → vs[i]? = some v → Hx t = some (.tup [.str nm, v])) → (∀ (i : Nat) t nm v, ts'[i]? = some t → (namesOf rs)[i]? = some nm → vs[i]? = some v → Hx t = some (.tup [.str nm, v])) → EqZL Hx (ts.map V.ref) (ts'.map V.ref) := by
      intro Hx ts ts' sx l1 l2 f1 f2
      refine eqZL_of (by rw [List.length_map, List.length_map, l1, l2]) fun i x y e1 e2 => ?_
      rw [List.getElem?_map] at e1 e2
      obtain ⟨t1, z1, rfl⟩ := Option.map_eq_some_iff.mp e1
      obtain ⟨t2, z2, rfl⟩ := Option.map_eq_some_iff.mp e2
      have hi := (List.getElem?_eq_some_iff.mp z1).1
      obtain ⟨nm, hnm⟩ : ∃ nm, (namesOf rs)[i]? = some nm := ⟨_, List.getElem?_eq_getElem (by omega)⟩
      obtain ⟨v, hv⟩ : ∃ v, vs[i]? = some v := ⟨_, List.getElem?_eq_getElem (by omega)⟩
      obtain ⟨mi, hmi⟩ : ∃ mi, ps[i]? = some mi := ⟨_, List.getElem?_eq_getElem (by omega)⟩
      exact .tup (f1 i t1 nm v z1 hnm hv) (f2 i t2 nm v z2 hnm hv) (.cons (.str nm) (.cons ((sl.get hmi hv).flat (h8.mem mi (List.mem_of_getElem? hmi))) .nil))
    refine ⟨fun σ H10 => σ = [some (.ref p), some m.val, some (.ref D), x3, some (.ref F2), some (.ref d), some (.ref N), none, none, none, none] ∧ Same H9 H10, ?_, ?_⟩
    · refine ⟨_, rfl, _, rfl, N, rfl, ⟨_, SqL.of (s9 _ _ hN)⟩, fun G nG => ?_⟩
      refine lc_list (K := K) (a := N) (xs := (namesOf rs).map V.str) (fun j H10 => ∃ us : List Addr, Same H9 H10 ∧ H10 G = some (.lst (us.map V.ref)) ∧ us.length = j ∧ ∀ (i : Nat) t nm v, us[i]? = some t → (namesOf rs)[i]? = some nm → vs[i]? = some v → H10 t = some (.tup [.str nm, v])) ⟨[], same_new nG, upd_same, rfl, fun i t nm v e => by simp at e⟩ (fun j H10 _ ⟨_, s10, _⟩ => SqL.of (s10 _ _ (s9 _ _ hN))) ?_ ?_
      · rintro j x H10 hx ⟨us, s10, h10, lus, hus⟩
        rw [List.getElem?_map] at hx
        obtain ⟨nm, hnm, rfl⟩ := Option.map_eq_some_iff.mp hx
        have hj : j < (namesOf rs).length := (List.getElem?_eq_some_iff.mp hnm).1
        obtain ⟨v, hv⟩ : ∃ v, vs[j]? = some v := ⟨_, List.getElem?_eq_getElem (by omega)⟩
        have sx : Same H4 H10 := s49.trans s10
        refine ⟨rfl, ?_⟩
        unfold tYes
        refine iteT ?_
        refine ⟨_, rfl, _, rfl, d, _, rfl, gN sx, _, rfl, p', dx, dn, nm, _, _, v, rfl, rfl, sx _ _ g2, rfl, sx _ _ g3, valV_fkv hnn hnm hv, by show 2 ≤ sizeLine; omega, fun t nt => ?_⟩
        have s11 := same_new (o := .tup [.str nm, v]) nt
        have tG : t ≠ G := fun z => by rw [z, h10] at nt; cases nt
        refine ⟨_, s11 _ _ h10, by rw [List.length_map]; omega, us ++ [t], fun c o e => ?_, ?_, by rw [List.length_append, lus]; rfl, fun i t' nm' v' e1 e2 e3 => ?_⟩
        · rw [upd_ne (ne_of_none e nG)]
          exact s11 _ _ (s10 _ _ e)
        · rw [upd_same, List.map_append]
          rfl
        · by_cases hi : i < us.length
          · rw [List.getElem?_append_left hi] at e1
            have z := hus i t' nm' v' e1 e2 e3
            rw [upd_ne fun y => by rw [y, h10] at z; cases z]
            exact s11 _ _ z
          · have en : i = us.length := by
              have z := (List.getElem?_eq_some_iff.mp e1).1
              rw [List.length_append, List.length_singleton] at z
              omega
            subst en
            rw [List.getElem?_append_right (Nat.le_refl _), Nat.sub_self] at e1
            rw [lus, hnm] at e2
            rw [lus, hv] at e3
            cases e1
            cases e2
            cases e3
            rw [upd_ne tG]
            exact upd_same
      · rintro H10 ⟨us, s10, h10, lus, hus⟩
        rw [List.length_map, nln] at lus
        refine ⟨F2, G, _, _, rfl, rfl, s10 _ _ hF2, h10, same2 (s49.trans s10) lts lus (fun i t nm v e1 e2 e3 => s10 _ _ (hts i t nm v e1 e2 e3)) hus, _, rfl, iteF ?_⟩
        exact ⟨_, rfl, .ref F2, .ty "list", _, _, _, rfl, .ty _, fls (s10 _ _ hF2), lst_in, _, rfl, iteF ⟨rfl, s10⟩⟩
    rintro σ H10 ⟨rfl, s10⟩
    have s410 := s49.trans s10
    have hF10 := s10 _ _ hF2
    refine ⟨fun σ H11 => σ = [some (.ref p), some m.val, some (.ref D), x3, some (.ref F2), some (.ref d), some (.ref N), none, none, none, none] ∧ Same H10 H11, ?_, ?_⟩
    · refine ⟨_, rfl, F2, rfl, ⟨_, SqL.of hF10⟩, fun G nG => ?_⟩
      refine lc_list (K := K) (a := F2) (xs := ts.map V.ref) (fun j H11 => Same H10 H11 ∧ H11 G = some (.lst ((List.replicate j true).map V.bl))) ⟨same_new nG, upd_same⟩ (fun j H11 _ ⟨s11, _⟩ => SqL.of (s11 _ _ hF10)) ?_ ?_
      · rintro j x H11 hx ⟨s11, h11⟩
        rw [List.getElem?_map] at hx
        obtain ⟨t, ht, rfl⟩ := Option.map_eq_some_iff.mp hx
        have hj := (List.getElem?_eq_some_iff.mp ht).1
        obtain ⟨nm, hnm⟩ : ∃ nm, (namesOf rs)[j]? = some nm := ⟨_, List.getElem?_eq_getElem (by omega)⟩
        obtain ⟨v, hv⟩ : ∃ v, vs[j]? = some v := ⟨_, List.getElem?_eq_getElem (by omega)⟩
        have ht11 := s11 _ _ (s10 _ _ (hts j t nm v ht hnm hv))
        refine ⟨rfl, ?_⟩
        unfold tYes
        refine iteT ?_
        refine ⟨_, rfl, .ref t, .ty "tuple", _, _, _, rfl, .ty _, .base (.tup ht11), kit_ty (by show _ = some true; decide +kernel), _, h11, ?_, fun c o e => ?_, ?_⟩
        · rw [List.length_map, List.length_replicate]
          omega
        · rw [upd_ne (ne_of_none e nG)]
          exact s11 _ _ e
        · rw [upd_same, List.replicate_succ', List.map_append]
          rfl
      · rintro H11 ⟨s11, h11⟩
        refine ⟨G, _, rfl, SqL.of h11, ?_⟩
        rw [show ((List.replicate (ts.map V.ref).length true).all id) = true from by simp]
        have s411 := s410.trans s11
        refine ⟨_, rfl, iteF ?_⟩
        refine ⟨_, rfl, d, _, rfl, gN s411, p', dx, dn, kd, mm, rs, vs, rfl, s411 _ _ g2, s411 _ _ g3, row, hvl, fun H12 F3 us s12 nF3 hF3 lus hus => ?_⟩
        have s1012 : Same H10 H12 := Same.trans s11 s12
        exact ⟨_, rfl, F3, F2, _, _, rfl, rfl, hF3, s1012 _ _ hF10, same2 (s411.trans s12) lus lts hus (fun i t nm v e1 e2 e3 => s1012 _ _ (s10 _ _ (hts i t nm v e1 e2 e3))), _, rfl, iteF ⟨rfl, s1012⟩⟩
    rintro σ H11 ⟨rfl, s11⟩
    have hF11 := s11 _ _ hF10
    have nF24 : H4 F2 = none := s48.free nF2
    refine ⟨_, rfl, .inl ⟨rfl, _, SqL.of hF11⟩, F2, _, rfl, rfl, hF11, _, _, _, _, rfl, fun b o e => ?_⟩
    have e4 := s34 _ _ e
    rw [upd_ne (ne_of_none e4 nF24)]
    exact s11 _ _ (s410 _ _ e4)
  · rintro σ H4 ⟨x3, x4, x5, x6, rfl, s34⟩
    have s4 := s3.trans s34
    refine ⟨_, rfl, _, rfl, nd, m, .ref p, rfl, hmd, hm.up s4, hs.same hm s4, hh, fun H5 s5 => ⟨_, rfl, iteT ?_⟩⟩
    have s05 := s4.trans s5
    have hD5 : H5 D = some (.lst (nl.map V.ref)) := s5 _ _ (s34 _ _ (s23 _ _ (s12 _ _ hD)))
    exact ⟨_, rfl, p, nl, rfl, tr.up s05, by omega, fun H6 F nF s6 hF => ⟨_, rfl, F, D, _, _, rfl, rfl, hF, s6 _ _ hD5, eqZL_refs nl, q H6 (s05.trans s6)⟩⟩
end
end M4

namespace M4
open PySem PySem.Spec PyProof.Rows L2 StX TL
/-! ### model and node changed together, in one heap -/
section
variable {K : PySem.W.Frag} {C : Addr} {Cs : Nat → Addr} {nd nd' : Addr → Option Addr} {H H' S R T : Hp} {a e : Addr} {xs ys : List MT} {rs : List (Str × Str × Str)} {b : Bool} {us : List V}
mutual
/-- a model stands where all that it is made of stands -/
theorem MAt.mapA : ∀ {m : MT}, MAt Cs nd H m → (∀ b o, H b = some o → isI o = true ∨ b ∈ m.mds ∨ b ∈ m.lsa → H' b = some o) → (∀ d ∈ m.mds, nd' d = nd d) → MAt Cs nd' H' m
  | .md d pl sp k ps, .md h1 h2 h3 h4 h5 h6 h7 h8, g, e => by
    rw [mds_md, lsa_md] at g
    rw [mds_md] at e
    refine .md ?_ (g _ _ h2 (.inr (.inr (List.mem_cons_self ..)))) (g _ _ h3 (.inr (.inr (List.mem_cons_of_mem _ (List.mem_cons_self ..))))) h4 h5 h6 h7 (h8.mapA (fun b o z y => g b o z (y.imp id fun y => y.imp (List.mem_cons_of_mem _) fun y => List.mem_cons_of_mem _ (List.mem_cons_of_mem _ y))) fun x hx => e x (List.mem_cons_of_mem _ hx))
    rw [e d (List.mem_cons_self ..)]
    exact g _ _ h1 (.inr (.inl (List.mem_cons_self ..)))
  | .at_ v, .at_ h, g, _ => .at_ (h.map fun b o i z => g b o z (.inl i))
  | .ls a ps, .ls h1 h2 h3, g, e => by
    rw [mds_ls, lsa_ls] at g
    rw [mds_ls] at e
    exact .ls (g _ _ h1 (.inr (.inr (List.mem_cons_self ..)))) h2 (h3.mapA (fun b o z y => g b o z (y.imp id fun y => y.imp id (List.mem_cons_of_mem _))) e)
  | .tu a ps, .tu h1 h2 h3, g, e => by
    rw [mds_tu, lsa_tu] at g
    rw [mds_tu] at e
    exact .tu (g _ _ h1 (.inl rfl)) h2 (h3.mapA g e)
theorem MAtL.mapA : ∀ {ms : List MT}, MAtL Cs nd H ms → (∀ b o, H b = some o → isI o = true ∨ b ∈ mdsL ms ∨ b ∈ lsaL ms → H' b = some o) → (∀ d ∈ mdsL ms, nd' d = nd d) → MAtL Cs nd' H' ms
  | [], .nil, _, _ => .nil
  | m :: r, .cons h hs, g, e => by
    rw [mdsL_cons, lsaL_cons] at g
    rw [mdsL_cons] at e
    exact .cons (h.mapA (fun b o z y => g b o z (y.imp id fun y => y.imp (List.mem_append_left _) (List.mem_append_left _))) fun x hx => e x (List.mem_append_left _ hx))
      (hs.mapA (fun b o z y => g b o z (y.imp id fun y => y.imp (List.mem_append_right _) (List.mem_append_right _))) fun x hx => e x (List.mem_append_right _ hx))
end
/-! ### a change below, seen from above -/
theorem mem_lnk {y : MT} : ∀ {ms : List MT} {vs : List V}, SoL C nd S R ms vs → y ∈ ms → ∃ u, So C nd S R y u ∧ ∀ y', Chg a xs ys y y' → Lnk C nd R a xs ys e rs b us y y' u → ∃ qs, ChgL a xs ys ms qs ∧ LnkL C nd R a xs ys e rs b us ms qs vs
  | _, _, .cons h hs, hy => by
    rcases List.mem_cons.mp hy with rfl | hy
    · exact ⟨_, h, fun y' c l => ⟨_, .here c, .here l⟩⟩
    · obtain ⟨u, g, f⟩ := mem_lnk hs hy
      refine ⟨u, g, fun y' c l => ?_⟩
      obtain ⟨qs, c2, l2⟩ := f y' c l
      exact ⟨_, .there c2, .there l2⟩
theorem below_lnk {y : MT} : ∀ {ms : List MT} {vs : List V}, SoL C nd S R ms vs → y ∈ belowM ms → ∃ u, So C nd S R y u ∧ ∀ y', Chg a xs ys y y' → Lnk C nd R a xs ys e rs b us y y' u → ∃ qs, ChgL a xs ys ms qs ∧ LnkL C nd R a xs ys e rs b us ms qs vs
  | _, _, .nil, hy => by cases hy
  | m :: r, _, .cons h hs, hy => by
    have hy : y ∈ below1 m ++ belowM r := hy
    rcases List.mem_append.mp hy with hy | hy
    · cases m with
      | md d pl sp k ps =>
        have e : y = .md d pl sp k ps := List.mem_singleton.mp hy
        subst e
        exact ⟨_, h, fun y' c l => ⟨_, .here c, .here l⟩⟩
      | at_ v => cases hy
      | ls c0 ms =>
        obtain ⟨z, hz, ez⟩ := List.mem_filterMap.mp hy
        obtain ⟨rfl, _⟩ := dict_of ez
        cases h with
        | ls h1 h2 =>
          obtain ⟨u, g, f⟩ := mem_lnk h2 hz
          refine ⟨u, g, fun y' c l => ?_⟩
          obtain ⟨qs, c2, l2⟩ := f y' c l
          exact ⟨_, .here (.lsIn c2), .here (.lsIn h1 l2)⟩
      | tu c0 ms => cases hy
    · obtain ⟨u, g, f⟩ := below_lnk hs hy
      refine ⟨u, g, fun y' c l => ?_⟩
      obtain ⟨qs, c2, l2⟩ := f y' c l
      exact ⟨_, .there c2, .there l2⟩
theorem msN_lnk : ∀ (n : Nat) (m : MT) (l : List MT) (v : V), MsN n m l → So C nd S R m v → ∀ x ∈ l, ∃ u, So C nd S R x u ∧ ∀ x', Chg a xs ys x x' → Lnk C nd R a xs ys e rs b us x x' u → ∃ m', Chg a xs ys m m' ∧ Lnk C nd R a xs ys e rs b us m m' v
  | 0, _, _, _, h, _, _, _ => h.elim
  | n + 1, m, l, v, h, g, x, hx => by
    obtain ⟨d, pl, sp, k, ps, ls, rfl, rfl, al⟩ := h
    rcases List.mem_cons.mp hx with rfl | hx
    · exact ⟨_, g, fun x' c l => ⟨x', c, l⟩⟩
    · obtain ⟨y, ly, z1, z2, z3⟩ := all2_mem al x hx
      cases g with
      | md h1 h2 h3 h4 h5 h6 hs =>
        obtain ⟨u1, g1, f1⟩ := below_lnk (a := a) (xs := xs) (ys := ys) (e := e) (rs := rs) (b := b) (us := us) hs z1
        obtain ⟨u2, g2, f2⟩ := msN_lnk n y ly u1 z2 g1 x z3
        refine ⟨u2, g2, fun x' c l => ?_⟩
        obtain ⟨y', c2, l2⟩ := f2 x' c l
        obtain ⟨qs, c3, l3⟩ := f1 y' c2 l2
        exact ⟨_, .mdIn c3, .mdIn h1 h2 h3 h4 h5 l3⟩
end
end M4

namespace M4
open PySem PySem.Spec PyProof.Rows L2 StX TL
theorem widL_mem : ∀ {xs : List MT} {m : MT}, m ∈ xs → m.wid ≤ widL xs
  | x :: r, m, h => by
    rw [widL_cons]
    rcases List.mem_cons.mp h with rfl | h
    · exact Nat.le_max_left _ _
    · exact Nat.le_trans (widL_mem h) (Nat.le_max_right _ _)
theorem below1_wid {m n : MT} (h : n ∈ below1 m) : n.wid ≤ m.wid := by
  cases m with
  | md d pl sp k ps =>
    rw [List.mem_singleton.mp h]
    exact Nat.le_refl _
  | at_ v => cases h
  | ls a ps =>
    obtain ⟨x, hx, e⟩ := List.mem_filterMap.mp h
    obtain ⟨rfl, e2⟩ := dict_of e
    rw [wid_ls]
    have := widL_mem hx
    omega
  | tu a ps => cases h
theorem belowM_wid {ps : List MT} {n : MT} (h : n ∈ belowM ps) : n.wid ≤ widL ps := by
  obtain ⟨m, hm, hn⟩ := List.mem_flatMap.mp h
  exact Nat.le_trans (below1_wid hn) (widL_mem hm)
theorem msN_wid : ∀ (n : Nat) (m : MT) (l : List MT), MsN n m l → ∀ x ∈ l, x.wid ≤ m.wid
  | 0, _, _, h, _, _ => h.elim
  | n + 1, m, l, h, x, hx => by
    obtain ⟨d, pl, sp, k, ps, ls, rfl, rfl, al⟩ := h
    rcases List.mem_cons.mp hx with rfl | hx
    · exact Nat.le_refl _
    · obtain ⟨y, ly, z1, z2, z3⟩ := all2_mem al x hx
      rw [wid_md]
      exact Nat.le_trans (msN_wid n y ly z2 x z3) (belowM_wid z1)
section
variable {C : Addr} {nd nd' : Addr → Option Addr} {R R' : Hp} {pl e : Addr} {xs ys : List MT} {rs : List (Str × Str × Str)} {b : Bool} {us : List V}
mutual
theorem Lnk.up (s : Same R R') : ∀ {m m' : MT} {v : V}, Lnk C nd R pl xs ys e rs b us m m' v → (∀ d ∈ m.mds, nd' d = nd d) → Lnk C nd' R' pl xs ys e rs b us m m' v
  | _, _, _, .md (d := d) hb h1 h2 h4, g => .md hb ((g d (by rw [mds_md]; exact List.mem_cons_self ..)).trans h1) (s _ _ h2) h4
  | _, _, _, .ls hb, _ => .ls hb
  | _, _, _, .mdIn (d := d) h1 h2 h3 h4 h5 l, g => .mdIn ((g d (by rw [mds_md]; exact List.mem_cons_self ..)).trans h1) (s _ _ h2) (s _ _ h3) h4 h5 (LnkL.up s l fun x hx => g x (by rw [mds_md]; exact List.mem_cons_of_mem _ hx))
  | _, _, _, .lsIn h l, g => .lsIn (s _ _ h) (LnkL.up s l fun x hx => g x (by rw [mds_ls]; exact hx))
  | _, _, _, .tuIn h l, g => .tuIn (s _ _ h) (LnkL.up s l fun x hx => g x (by rw [mds_tu]; exact hx))
theorem LnkL.up (s : Same R R') : ∀ {ps qs : List MT} {vs : List V}, LnkL C nd R pl xs ys e rs b us ps qs vs → (∀ d ∈ mdsL ps, nd' d = nd d) → LnkL C nd' R' pl xs ys e rs b us ps qs vs
  | _, _, _, .here l, g => .here (Lnk.up s l fun x hx => g x (by rw [mdsL_cons]; exact List.mem_append_left _ hx))
  | _, _, _, .there l, g => .there (LnkL.up s l fun x hx => g x (by rw [mdsL_cons]; exact List.mem_append_right _ hx))
end
end
/-- the world, and what else stands but the stream -/
def jn (T H2 : Hp) (a c : Addr) : Hp := fun b => match T b with
  | some o => some o
  | none => if b = a ∨ b = c then none else H2 b
theorem jn_l {T H2 : Hp} {a c : Addr} : Same T (jn T H2 a c) := fun b o e => by
  unfold jn
  rw [e]
theorem jn_r {T H2 : Hp} {a c b : Addr} (h : T b = none) (na : b ≠ a) (nc : b ≠ c) : jn T H2 a c b = H2 b := by
  unfold jn
  rw [h]
  exact if_neg fun z => z.elim na nc
theorem jn_n {T H2 : Hp} {a c b : Addr} (h : T b = none) (z : b = a ∨ b = c) : jn T H2 a c b = none := by
  unfold jn
  rw [h]
  exact if_pos z
theorem jn_cases {T H2 : Hp} {a c b : Addr} {o : HO} (h : jn T H2 a c b = some o) : T b = some o ∨ (T b = none ∧ H2 b = some o) := by
  unfold jn at h
  cases e : T b with
  | some u => rw [e] at h; exact .inl h
  | none =>
    rw [e] at h
    dsimp only at h
    by_cases z : b = a ∨ b = c
    · rw [if_pos z] at h; cases h
    · rw [if_neg z] at h; exact .inr ⟨rfl, h⟩
section
variable {C : Addr} {Cs : Nat → Addr} {nd nd1 nd2 : Addr → Option Addr} {T X0 H0 H2 : Hp} {a c pl e : Addr} {xs ys : List MT} {rs : List (Str × Str × Str)} {b : Bool} {us : List V} {o : HO} {m m' x : MT} {v w : V} {A : List Addr}
/-- what is drawn since: its own things are not the world's -/
structure New (Cs : Nat → Addr) (T X0 H0 : Hp) (a c : Addr) (x : MT) : Prop where
  at_ : MAt Cs (fun _ => none) X0 x
  sm : Same X0 H0
  xd : ∀ b o, X0 b = some o → isI o = false → T b = none ∧ b ≠ a ∧ b ≠ c
  nd : x.mds.Nodup
  nl : x.lsa.Nodup
theorem New.mds (h : New Cs T X0 H0 a c x) : ∀ d ∈ x.mds, T d = none ∧ d ≠ a ∧ d ≠ c ∧ ∃ kvs, H0 d = some (.dK kvs) := fun d hd => by
  obtain ⟨kvs, g⟩ := h.at_.has d hd
  obtain ⟨z1, z2, z3⟩ := h.xd _ _ g rfl
  exact ⟨z1, z2, z3, _, h.sm _ _ g⟩
theorem New.lsa (h : New Cs T X0 H0 a c x) : ∀ d ∈ x.lsa, T d = none ∧ d ≠ a ∧ d ≠ c ∧ ∃ us, H0 d = some (.lst us) := fun d hd => by
  obtain ⟨kvs, g⟩ := h.at_.hasL d hd
  obtain ⟨z1, z2, z3⟩ := h.xd _ _ g rfl
  exact ⟨z1, z2, z3, _, h.sm _ _ g⟩
/-- before its node is made -/
theorem New.at1 (h : New Cs T X0 H0 a c x) {u w' : HO} (hp : T pl = some u) (n1 : ∀ d ∈ x.mds, nd1 d = none) (ni : isI u = false) (sT : Same T H0) : MAt Cs nd1 (upd H0 pl w') x :=
  h.at_.mapA (fun b o e z => by
    rw [upd_ne fun y => by
      subst y
      rcases z with z | z | z
      · have y := h.sm _ _ e
        rw [sT _ _ hp] at y
        cases y
        rw [ni] at z; cases z
      · rw [(h.mds _ z).1] at hp; cases hp
      · rw [(h.lsa _ z).1] at hp; cases hp]
    exact h.sm _ _ e) n1
theorem joint (sT : Same T H0) (ta : T a = none) (tc : T c = none) (wa : was H0 a) (wc : was H0 c) (h : Wd C Cs nd T m v A) (hx : New Cs T X0 H0 a c x) (cm : Chg pl xs ys m m') (e1 : ∀ d ∈ m.mds, nd1 d = nd d) (e2 : ∀ d ∈ x.mds, nd1 d = none)
    (M : Mv x.mds nd1 nd2 (upd H0 pl (.lst (ys.map MT.val))) H2) (so : So C nd2 (upd H0 pl (.lst (ys.map MT.val))) (res (was H0) H2) x w) (fr : Frs C nd2 (res (was H0) H2) (upd H0 pl (.lst (ys.map MT.val))) x w)
    (l : Lnk C nd T pl xs ys e rs b us m m' v) (he : T e = some o) (p : Plc rs b us o) (sxs : SoL C nd T T xs us) :
    H2 e = some o ∧ e ≠ a ∧ e ≠ c ∧ pl ≠ a ∧ pl ≠ c ∧ e ≠ pl ∧ (∀ b o, b ≠ pl → H0 b = some o → T b = some o → H2 b = some o) ∧ (∀ S w', StmAt H0 a c S → StmAt (upd H2 e w') a c S) ∧ ∀ ws w', Put x w xs us ys ws → Plc rs b ws w' → ∃ T' A', Same T' (upd H2 e w') ∧ T' a = none ∧ T' c = none ∧ Wd C Cs nd2 T' m' v A' := by
  obtain ⟨upl, hpl⟩ := h.at_.hasL pl cm.in_
  have pla : pl ≠ a := fun z => by rw [z, ta] at hpl; cases hpl
  have plc : pl ≠ c := fun z => by rw [z, tc] at hpl; cases hpl
  have ea : e ≠ a := fun z => by rw [z, ta] at he; cases he
  have ec : e ≠ c := fun z => by rw [z, tc] at he; cases he
  have xm := hx.mds
  have xl := hx.lsa
  have plx : pl ∉ x.mds := fun z => by rw [(xm _ z).1] at hpl; cases hpl
  have n2 : ∀ d ∈ m.mds, nd2 d = nd d := fun d hd => (M.out d fun z => by
    obtain ⟨_, g⟩ := h.at_.has d hd
    rw [(xm _ z).1] at g; exact (nomatch g)).trans (e1 d hd)
  have k1 : ∀ {b : Addr} {o : HO}, b ≠ pl → H0 b = some o → b ∉ x.mds → H2 b = some o := fun {b o} n e nx => M.kp b o nx (by rw [upd_ne n]; exact e)
  have hpl2 : H2 pl = some (.lst (ys.map MT.val)) := M.kp pl _ plx upd_same
  have stream : ∀ {z : Addr}, was H0 z → T z = none → (z = a ∨ z = c) → ∃ o, H2 z = some o ∧ isI o = false := fun {z} ⟨o, g, i⟩ tz hz => ⟨o, k1 (fun y => by rw [y, hpl] at tz; exact (nomatch tz)) g (fun y => hz.elim (xm _ y).2.1 (xm _ y).2.2.1), i⟩
  have inJ : ∀ {b : Addr} {o : HO}, H2 b = some o → isI o = true ∨ T b = none ∧ b ≠ a ∧ b ≠ c → jn T H2 a c b = some o := fun {b o} g z => by
    cases tb : T b with
    | none =>
      rcases z with i | ⟨_, z2, z3⟩
      · have na : b ≠ a := fun y => by
          obtain ⟨o', g', i'⟩ := stream wa ta (.inl rfl)
          rw [y, g'] at g
          cases g
          rw [i] at i'; cases i'
        have nc : b ≠ c := fun y => by
          obtain ⟨o', g', i'⟩ := stream wc tc (.inr rfl)
          rw [y, g'] at g
          cases g
          rw [i] at i'; cases i'
        rw [jn_r tb na nc]
        exact g
      · rw [jn_r tb z2 z3]
        exact g
    | some o' =>
      rcases z with i | ⟨z1, _, _⟩
      · have nb : b ≠ pl := fun y => by
          rw [y, hpl2] at g
          cases g
          cases i
        have y := k1 nb (sT _ _ tb) fun y => by rw [(xm _ y).1] at tb; cases tb
        rw [g] at y
        cases y
        exact jn_l _ _ tb
      · rw [z1] at tb; cases tb
  have sR : Same (res (was H0) H2) (jn T H2 a c) := fun b o g => by
    obtain ⟨nw, g2⟩ := res_at g
    cases tb : T b with
    | none =>
      rw [jn_r tb (fun y => nw (y ▸ wa)) (fun y => nw (y ▸ wc))]
      exact g2
    | some o' =>
      have i : isI o' = true := by
        cases i : isI o' with
        | true => rfl
        | false => exact absurd ⟨_, sT _ _ tb, i⟩ nw
      have nb : b ≠ pl := fun y => nw (y ▸ ⟨_, sT _ _ hpl, rfl⟩)
      have y := k1 nb (sT _ _ tb) fun y => by rw [(xm _ y).1] at tb; cases tb
      rw [g2] at y
      cases y
      exact jn_l _ _ tb
  have at1 := hx.at1 (nd1 := nd1) (w' := .lst (ys.map MT.val)) hpl e2 rfl sT
  have hdk : ∀ d ∈ x.mds, ∃ kvs, (upd H0 pl (.lst (ys.map MT.val))) d = some (.dK kvs) := at1.has
  have atX : MAt Cs nd2 (jn T H2 a c) x := (at1.mv M hdk).mapA (fun b o g z => inJ g (z.imp id fun z => z.elim (fun z => ⟨(xm _ z).1, (xm _ z).2.1, (xm _ z).2.2.1⟩) fun z => ⟨(xl _ z).1, (xl _ z).2.1, (xl _ z).2.2.1⟩)) fun _ _ => rfl
  have soX : So C nd2 (jn T H2 a c) (jn T H2 a c) x w := (so.up sR fun _ _ => rfl).mapS fun s hs u g => by
    have hsl := sps_lsa _ _ hs
    refine inJ (M.kp s u (fun z => ?_) g) (.inr ⟨(xl _ hsl).1, (xl _ hsl).2.1, (xl _ hsl).2.2.1⟩)
    obtain ⟨_, g1⟩ := hx.at_.hasL s hsl
    obtain ⟨_, g2⟩ := hx.at_.has s z
    rw [g1] at g2; cases g2
  obtain ⟨B, ow, nB, newB⟩ := fr
  have fre : ∀ {z : Addr}, (upd H0 pl (.lst (ys.map MT.val))) z = none → H0 z = none := fun {z} g => by
    have nz : z ≠ pl := fun y => by rw [y, upd_same] at g; cases g
    rw [upd_ne nz] at g
    exact g
  have freT : ∀ {z : Addr}, (upd H0 pl (.lst (ys.map MT.val))) z = none → T z = none := fun {z} g => by
    cases y : T z with
    | none => rfl
    | some o => have y2 := sT _ _ y; rw [fre g] at y2; cases y2
  have wX : Wd C Cs nd2 (jn T H2 a c) x w B := ⟨atX, soX, ow.up sR fun _ _ => rfl, nB, fun z hz => ⟨fun y => by
    obtain ⟨_, _, _, _, g⟩ := xm _ y
    rw [fre (newB z hz)] at g; exact (nomatch g), fun y => by
    obtain ⟨_, _, _, _, g⟩ := xl _ y
    rw [fre (newB z hz)] at g; exact (nomatch g)⟩, hx.nl⟩
  have sJ : Same T (jn T H2 a c) := jn_l
  have wM : Wd C Cs nd2 (jn T H2 a c) m v A := ⟨h.at_.mapA (fun b o g _ => sJ b o g) n2, (h.so.up sJ n2).fw sJ, h.own.up sJ n2, h.nA, h.ap, h.nl⟩
  obtain ⟨eA, epl, f⟩ := wM.putL wX (fun z hz y => by
      obtain ⟨_, g⟩ := h.at_.hasL z y
      rw [(xl _ hz).1] at g; exact (nomatch g))
    (fun z hz => ⟨fun y => by
      obtain ⟨_, g, _⟩ := h.own.has z y
      rw [freT (newB z hz)] at g; exact (nomatch g), fun y => by
      obtain ⟨_, g⟩ := h.at_.hasL z y
      rw [freT (newB z hz)] at g; exact (nomatch g), fun y => by
      obtain ⟨_, g⟩ := h.at_.has z y
      rw [freT (newB z hz)] at g; exact (nomatch g)⟩)
    (fun z hz => by
      obtain ⟨_, g, _⟩ := h.own.has z hz
      exact ⟨fun y => by rw [(xl _ y).1] at g; exact (nomatch g), fun y => by rw [(xm _ y).1] at g; exact (nomatch g)⟩) cm (Lnk.up sJ l n2) (sJ _ _ he) p ((sxs.up sJ fun d hd => n2 d ((Chg.mds cm).2 d hd)).fw sJ)
  refine ⟨k1 epl (sT _ _ he) fun y => (by rw [(xm _ y).1] at he; cases he), ea, ec, pla, plc, epl, fun b o n g tb => k1 n g fun y => by rw [(xm _ y).1] at tb; exact (nomatch tb), fun S w' z => ⟨by rw [upd_ne ea.symm]; exact k1 pla.symm z.lst fun y => (xm _ y).2.1 rfl, by rw [upd_ne ec.symm]; exact k1 plc.symm z.cel fun y => (xm _ y).2.2.1 rfl, z.ne, z.len, z.cur0, z.cnt0, z.mix0, z.mix1⟩, fun ws w' pt q => ?_⟩
  obtain ⟨A', wd, _⟩ := f ws w' pt q
  refine ⟨_, A', fun z u g => ?_, ?_, ?_, wd⟩
  · by_cases ze : z = e
    · subst ze
      rw [upd_same] at g ⊢
      exact g
    · rw [upd_ne ze] at g ⊢
      by_cases zp : z = pl
      · subst zp
        rw [upd_same] at g
        rw [hpl2]
        exact g
      · rw [upd_ne zp] at g
        rcases jn_cases g with y | ⟨_, y⟩
        · exact k1 zp (sT _ _ y) fun y2 => by rw [(xm _ y2).1] at y; cases y
        · exact y
  · rw [upd_ne ea.symm, upd_ne pla.symm]
    exact jn_n ta (.inl rfl)
  · rw [upd_ne ec.symm, upd_ne plc.symm]
    exact jn_n tc (.inr rfl)
end
end M4

namespace M4
open PySem PySem.Spec PyProof.Rows L2 StX TL
/-- list == [] -/
def rEqE : R2 := fun x y H Q => ∃ (a b : Addr) (xs : List V), x = .ref a ∧ y = .ref b ∧ H a = some (.lst xs) ∧ H b = some (.lst []) ∧ Q (.bl xs.isEmpty) H
theorem op_eqE {X : Cx} (hu : X.A.units + 64 < cLine) : OpR X (compareOp .Eq) rEqE := by
  intro pins s σ H x y v u Q I rx ry h
  obtain ⟨a, b, xs, rfl, rfl, ha, hb, q⟩ := h
  cases xs with
  | nil => exact op_eqL hu pins s σ H _ _ v u Q I rx ry ⟨a, b, [], [], rfl, rfl, ha, hb, .nil, q⟩
  | cons z r =>
    cases rx
    cases ry
    obtain ⟨_, its, k, rr, g⟩ := I.hok a _ ha
    obtain ⟨_, its2, k2, rr2, g2⟩ := I.hok b _ hb
    refine SeqAt.RcAt.lists_lengths (items := its.toArray) (items2 := its2.toArray) ⟨_, g, rfl, k, rfl⟩ ⟨_, g2, rfl, k2, rfl⟩ ?_ (by omega) X.prog X.w X.xe _ ⟨.bl false, H, I, rfl, q⟩
    rw [List.size_toArray, List.size_toArray, ← rr.length, ← rr2.length]
    simp
/-! ### one place within the parts of a model -/
section
variable {C : Addr} {nd : Addr → Option Addr} {R : Hp} {a e : Addr} {xs ys : List MT} {rs : List (Str × Str × Str)} {b : Bool} {us : List V}
theorem at_lnk {y y' : MT} {u : V} (c : Chg a xs ys y y') (l : Lnk C nd R a xs ys e rs b us y y' u) : ∀ {ms : List MT} {vs : List V} {j : Nat}, ms[j]? = some y → vs[j]? = some u → ∃ qs, ChgL a xs ys ms qs ∧ LnkL C nd R a xs ys e rs b us ms qs vs
  | m :: ms, v :: vs, 0, h1, h2 => by
    cases h1
    cases h2
    exact ⟨_, .here c, .here l⟩
  | m :: ms, v :: vs, j + 1, h1, h2 => by
    obtain ⟨qs, z1, z2⟩ := at_lnk c l (ms := ms) (vs := vs) (j := j) h1 h2
    exact ⟨_, .there z1, .there z2⟩
  | [], _, _, h1, _ => by simp at h1
  | _ :: _, [], _, _, h2 => by simp at h2
end
/-! ### _law_changed -/
abbrev sCh : Stmt := topS 44
theorem scCh : FnScope ["_law_stream", "_law_model_here", "_law_some", "_law_one", "_law_fresh", "_law_k", "_law_node_here", "_law_name", "_law_part_here"] ["_law_stream", "_law_model_here"] (defScope sCh) := ⟨rfl, rfl, rfl, by decide +kernel, rfl, by decide +kernel, by decide +kernel⟩
def spCh (C : Addr) (Cs : Nat → Addr) : Sp := fun vs H Q _ => ∃ (a c : Addr) (S : Stm) (nd : Addr → Option Addr) (T : Hp) (m : MT) (v : V) (A : List Addr), vs = [.ref a, m.val] ∧ StmAt H a c S ∧ S.cnt ≤ 690000 ∧ Same T H ∧ T a = none ∧ T c = none ∧ Wd C Cs nd T m v A ∧ isMd m = true ∧ m.hgt ≤ 85 ∧ m.mds.length ≤ 80000 ∧ m.wid ≤ 90 ∧
  ∀ (H' : Hp) (S' : Stm) (nd' : Addr → Option Addr) (T' : Hp) (m' : MT) (A' : List Addr), StmAt H' a c S' → Same T' H' → T' a = none → T' c = none → Wd C Cs nd' T' m' v A' → isMd m' = true → m'.val = m.val → m'.hgt ≤ m.hgt + 17 → m'.mds.length ≤ m.mds.length + 46 → m'.wid ≤ max m.wid 50 + 1 → S'.cnt ≤ S.cnt + 2770 → Q .non H'
section
variable {P : Program} {w : World} {K : PySem.W.Frag} {mg : Str → Option Value} {base : Heap} {C : Addr} {Cs : Nat → Addr}
theorem ok_ch {kN : Nat} (hkN : 104 ≤ kN) {f fD fMO fPK fM fFD fND fMP fG fS : Addr} {fd dD dMO dPK dM dFD dND dMP dG dS : FuncData} (F : Fun K "_law_changed" "_law_changed" sCh f fd) (Z : Blt mg) (W : ValI K C Cs) (Nc : NodeC K C fG fS)
    (GT : FnOk P w K mg base CX0 1 fG dG ["self", "at"] (spGet C)) (bG : Binds K dG ["self", "at"] [])
    (ST : FnOk P w K mg base CX0 1 fS dS ["self", "at", "worth"] (spSet C)) (bS : Binds K dS ["self", "at", "worth"] [])
    (D : FnOk P w K mg base CX0 1 fD dD ["_law_stream", "_law_many"] spDraw) (bD : Binds K dD ["_law_stream", "_law_many"] []) (kD : PySem.W.keepIn K (.ref fD) = true) (mD : mg "_law_draw" = some (.ref fD))
    (MO : ∀ nd, FnOk P w K mg base CX0 104 fMO dMO ["_law_model_here"] (spMo Cs nd 103)) (bMO : Binds K dMO ["_law_model_here"] []) (kMO : PySem.W.keepIn K (.ref fMO) = true) (mMO : mg "_law_models" = some (.ref fMO))
    (PK : FnOk P w K mg base CX0 2 fPK dPK ["_law_stream", "_law_some"] (spPick K)) (bPK : Binds K dPK ["_law_stream", "_law_some"] []) (kPK : PySem.W.keepIn K (.ref fPK) = true) (mPK : mg "_law_pick" = some (.ref fPK))
    (M : FnOk P w K mg base CX0 19 fM dM pPr (spMdl Cs 16 2 1)) (bM : Binds K dM pPr []) (kM : PySem.W.keepIn K (.ref fM) = true) (mM : mg "_law_model" = some (.ref fM))
    (FD : FnOk P w K mg base CX0 3 fFD dFD ["_law_kind"] spFd) (bFD : Binds K dFD ["_law_kind"] []) (kFD : PySem.W.keepIn K (.ref fFD) = true) (mFD : mg "_law_fields" = some (.ref fFD))
    (ND : FnOk P w K mg base CX0 kN fND dND ["_law_model_here"] (spNd K C Cs 51)) (bND : Binds K dND ["_law_model_here"] []) (kND : PySem.W.keepIn K (.ref fND) = true) (mND : mg "_law_node" = some (.ref fND))
    (MP : FnOk P w K mg base CX0 kN fMP dMP ["_law_part_here"] (spMp K C Cs 51)) (bMP : Binds K dMP ["_law_part_here"] []) (kMP : PySem.W.keepIn K (.ref fMP) = true) (mMP : mg "_law_made_part" = some (.ref fMP)) :
    FnOk P w K mg base CX0 (kN + 1) f fd ["_law_stream", "_law_model_here"] (spCh C Cs) := by
  refine F.ok scCh (fun vs H Q E h => ?_) (fun cdv A outer s H us Q E hr h => ?_)
  · obtain ⟨a, c, S, nd, T, m, v, A, rfl, _⟩ := h
    rfl
  obtain ⟨a, c, S, nd, T, m, v, A0, rfl, hS, hc, sT, ta, tc, wd, hmd, ht, ln, wi, q⟩ := h
  have hrM := hr.mono hkN
  have hr1 := hr.mono (show 2 ≤ kN by omega)
  have hr0 := hr.mono (show 1 ≤ kN by omega)
  have hr2 := hr.mono (show 2 ≤ kN by omega)
  have hr3 := hr.mono (show 3 ≤ kN by omega)
  have hrL := hr.mono (show 19 ≤ kN by omega)
  have hrN := hr
  have hrP := hr
  refine ⟨_, (C8.pss_cut (ps_setLc (i := 2) (own := [("_law_one", 3)]) (g := gName 3) (tt := _) rfl scCh.nd rfl rfl (sw_true rfl rfl rfl (by decide +kernel)) (pi_list (pe_call (MO nd) hrM rfl mMO kMO bMO .nil pass0 (pa_cons (pv 1) pa_nil))) (blkOk_by (own := [("_law_one", 3)]) (N := ["_law_stream", "_law_model_here", "_law_some", "_law_one", "_law_fresh", "_law_k", "_law_node_here", "_law_name", "_law_part_here"]) (sc := (defScope sCh)) (by decide +kernel)) (fun _ _ _ _ _ => (pg_name (i := 3) scCh.nd rfl (.inl rfl))) (fun _ _ _ _ _ => pts_one (pt_cmpR (op_neE hr.units) (pe_dget (hu_of hr) (pv 3) pe_str (fun _ _ => rfl)) (pe_lst pa_nil) (nomark _))) (fun _ _ _ _ _ => (pv 3)))
    (C8.pss_cut (ps_if (pt_cmpR (op_eqE hr.units) (pv 2) (pe_lst pa_nil) (nomark _)) (pss_one (ps_ret pe_non)) pss_nil)
    (C8.pss_cut (ps_par (by rfl) scCh.nd (i := 3) (j := 4) rfl rfl (by decide) rfl rfl (pa_cons (pe_call PK hr2 rfl mPK kPK bPK .nil pass0 (pa_cons (pv 0) (pa_cons (pv 2) pa_nil))) (pa_cons (pe_call M hrL rfl mM kM bM .nil pass0 (pa_cons (pv 0) (pa_cons pe_str (pa_cons (pe_lst (pa_cons pe_int pa_nil)) (pa_cons pe_int pa_nil))))) pa_nil)) (by rfl))
    (C8.pss_cut (ps_par (by rfl) scCh.nd (i := 5) (j := 6) rfl rfl (by decide) rfl rfl (pa_cons (pe_call D hr0 rfl mD kD bD .nil pass0 (pa_cons (pv 0) (pa_cons (pe_callB call_len_seq rfl Z.ln PySem.boot_len (pa_cons (pe_dget (hu_of hr) (pv 3) pe_str (fun _ _ => rfl)) pa_nil)) pa_nil))) (pa_cons (pe_dget (hu_of hr) (pv 3) pe_str (fun _ _ => rfl)) pa_nil)) (by rfl))
    (C8.pss_cut (ps_par (by rfl) scCh.nd (i := 7) (j := 8) rfl rfl (by decide) rfl rfl (pa_cons (pe_ix ix_tup (pe_ix ix_list (pe_call FD hr3 rfl mFD kFD bFD .nil pass0 (pa_cons (pe_dget (hu_of hr) (pv 3) pe_str (fun _ _ => rfl)) pa_nil)) (pv 5) (fun _ _ => rfl)) pe_int (fun _ _ => rfl)) (pa_cons (pe_ix ix_list (pe_dget (hu_of hr) (pv 3) pe_str (fun _ _ => rfl)) (pv 5) (fun _ _ => rfl)) pa_nil)) (by rfl))
    (C8.pss_cut (ps_if (PW.pt (pw_and (pt_val (pe_callB call_isi (by rfl) Z.isI (by decide +kernel) (pa_cons (pv 8) (pa_cons (pe_bltn (v := .ty "list") (by rfl) Z.ls (by decide +kernel) rfl) pa_nil)))) (pw_and1 (pt_cmpR op_eq (pe_call D hr0 rfl mD kD bD .nil pass0 (pa_cons (pv 0) (pa_cons pe_int pa_nil))) pe_int (nomark _))))) (C8.pss_cut (ps_expr (pe_bm PySem.F.plainAttrs_list PySem.F.slot_list_append PySem.F.type_list_append mt_append (pv 8) (pa_cons (pv 4) pa_nil)))
    (C8.pss_cut (ps_expr (pe_bm PySem.F.plainAttrs_list PySem.F.slot_list_append PySem.F.type_list_append mt_append (ixnK (K := K) rfl Nc GT bG hr1 (pv 6) (pv 7)) (pa_cons (pe_call ND hrN rfl mND kND bND .nil pass0 (pa_cons (pv 4) pa_nil)) pa_nil)))
    (pss_one (ps_ret pe_non)))) pss_nil)
    (C8.pss_cut (ps_asg (pe_ix ix_list (pe_lst (pa_cons (pv 4) (pa_cons (pe_lst (pa_cons (pv 4) (pa_cons pe_non pa_nil))) (pa_cons pe_non (pa_cons pe_str pa_nil))))) (pe_call D hr0 rfl mD kD bD .nil pass0 (pa_cons (pv 0) (pa_cons pe_int pa_nil))) (fun _ _ => rfl)) (pg_sub (pe_dget (hu_of hr) (pv 3) pe_str (fun _ _ => rfl)) (pv 5) set_list))
    (C8.pss_cut (ps_asg (pe_call MP hrP rfl mMP kMP bMP .nil pass0 (pa_cons (pe_ix ix_list (pe_dget (hu_of hr) (pv 3) pe_str (fun _ _ => rfl)) (pv 5) (fun _ _ => rfl)) pa_nil)) (pg_sub (pv 6) (pv 7) (set_node Nc ST bS hr0)))
    pss_nil)))))))), ?_⟩
  obtain ⟨l, hms, hll⟩ := msN_ex 103 m hmd (by omega)
  have hm := wd.at_
  have atl := msN_at 103 m l hms hm
  have zS : (1000000 : Nat) ≤ sizeLine := by decide
  have hna : ∀ {b : Addr}, H b = none → b ≠ a ∧ b ≠ c := fun {b} e => ⟨fun z => by rw [z, hS.lst] at e; exact (nomatch e), fun z => by rw [z, hS.cel] at e; exact (nomatch e)⟩
  have tk : ∀ {H3 : Hp}, Kept a c H H3 → Same T H3 := fun k b o e => k b o (fun z => by rw [z, ta] at e; cases e) (fun z => by rw [z, tc] at e; cases e) (sT _ _ e)
  refine ⟨fun σ H2 => ∃ (L : Addr) (ms : List MT), σ = [some (.ref a), some m.val, some (.ref L), none, none, none, none, none, none] ∧ Same H H2 ∧ H L = none ∧ H2 L = some (.lst (ms.map MT.val)) ∧ ms.length ≤ l.length ∧ ∀ x ∈ ms, x ∈ l ∧ ∃ d pl sp k p0 ps, x = .md d pl sp k (p0 :: ps), ?_, ?_⟩
  · refine ⟨_, rfl, m, l, rfl, hm.up sT, hms, by omega, fun H1 b nb s1 hb => ?_⟩
    refine ⟨b, rfl, ⟨_, SqL.of hb⟩, fun D nD => ?_⟩
    refine lc_list (K := K) (a := b) (xs := l.map MT.val) (fun j H5 => Same H1 H5 ∧ ∃ ms : List MT, H5 D = some (.lst (ms.map MT.val)) ∧ ms.length ≤ j ∧ ∀ x ∈ ms, x ∈ l ∧ ∃ d pl sp k p0 ps, x = .md d pl sp k (p0 :: ps)) ⟨same_new nD, [], upd_same, Nat.le_refl _, fun x hx => by exact (nomatch hx)⟩ (fun j H5 _ ⟨s5, _⟩ => SqL.of (s5 _ _ hb)) ?_ ?_
    · rintro j x H5 hx ⟨s5, ms, h5, lj, hms5⟩
      rw [List.getElem?_map] at hx
      obtain ⟨y, hy, rfl⟩ := Option.map_eq_some_iff.mp hx
      have hyl := List.mem_of_getElem? hy
      have hj := (List.getElem?_eq_some_iff.mp hy).1
      obtain ⟨ya, yd⟩ := atl y hyl
      have sx : Same T H5 := sT.trans (s1.trans s5)
      cases y with
      | at_ _ => cases yd
      | ls _ _ => cases yd
      | tu _ _ => cases yd
      | md d pl sp k ps =>
      cases ya with
      | md h1 h2 h3 h4 h5' h6 h7 h8 =>
      have gp : DGet H5 d (.str "parts") (some (.ref pl)) := by
        have z := DGet.k (k := Sum.inr "parts") (sx _ _ h1)
        rw [show valV (mdKv k pl sp (nd d)) (Sum.inr "parts") = some (V.ref pl) from by unfold mdKv; cases nd d <;> rfl] at z
        exact z
      refine ⟨rfl, _, rfl, d, _, rfl, gp, Nat.zero_le _, fun E nE => ?_⟩
      have s6 := same_new (o := .lst []) nE
      refine ⟨pl, E, _, rfl, rfl, s6 _ _ (sx _ _ h2), upd_same, _, rfl, ?_⟩
      cases ps with
      | nil => exact iteF ⟨s5.trans s6, ms, s6 _ _ h5, by omega, hms5⟩
      | cons p0 ps =>
        refine iteT ⟨_, rfl, _, s6 _ _ h5, by rw [List.length_map]; omega, ?_, ms ++ [.md d pl sp k (p0 :: ps)], ?_, by rw [List.length_append, List.length_singleton]; omega, fun x hx => ?_⟩
        · exact fun b' o e => by
            rw [upd_ne (ne_of_none e nD)]
            exact s6 _ _ (s5 _ _ e)
        · rw [upd_same, List.map_append]
          rfl
        · rcases List.mem_append.mp hx with hx | hx
          · exact hms5 x hx
          · rw [List.mem_singleton.mp hx]
            exact ⟨hyl, _, _, _, _, _, _, rfl⟩
    · rintro H5 ⟨s5, ms, h5, lj, hms5⟩
      rw [List.length_map] at lj
      exact ⟨D, ms, rfl, s1.trans s5, s1.free nD, h5, lj, hms5⟩
  rintro σ H2 ⟨L, ms, rfl, s2, nL, hL, lms, hms2⟩
  have La := hna nL
  refine ⟨fun σ H3 => σ = [some (.ref a), some m.val, some (.ref L), none, none, none, none, none, none] ∧ Same H H3 ∧ H3 L = some (.lst (ms.map MT.val)) ∧ 0 < ms.length, ?_, ?_⟩
  · refine ⟨_, rfl, Nat.zero_le _, fun E nE => ?_⟩
    have s3 := same_new (o := .lst []) nE
    refine ⟨L, E, _, rfl, rfl, s3 _ _ hL, upd_same, _, rfl, ?_⟩
    cases ms with
    | nil => exact iteT (q _ S nd T m A0 (hS.keep (s2.trans s3)) (sT.trans (s2.trans s3)) ta tc wd hmd rfl (by omega) (by omega) (by omega) (by omega))
    | cons m0 mr => exact iteF ⟨rfl, s2.trans s3, s3 _ _ hL, Nat.zero_lt_succ _⟩
  rintro σ H3 ⟨rfl, s3, hL3, lms0⟩
  have hS3 := hS.keep s3
  have km3 : Kept a c H H3 := Kept.same s3
  -- one and the fresh model
  refine ⟨fun σ H4 => ∃ (d pl sp : Addr) (k : Str) (ps : List MT) (x : MT) (S4 : Stm) (X0 : Hp), σ = [some (.ref a), some m.val, some (.ref L), some (.ref d), some x.val, none, none, none, none] ∧ MT.md d pl sp k ps ∈ l ∧ 0 < ps.length ∧ StmAt H4 a c S4 ∧ S4.cnt ≤ S.cnt + 2761 ∧ Kept a c H H4 ∧ New Cs T X0 H4 a c x ∧ X0 a = none ∧ X0 c = none ∧ isMd x = true ∧ x.hgt ≤ 16 ∧ x.wid ≤ 50 ∧ x.mds.length ≤ 46, ?_, ?_⟩
  · refine ⟨_, rfl, _, rfl, a, c, L, S, _, rfl, hS3, by omega, hL3, La.1, La.2, by rw [List.length_map]; exact lms0, by rw [List.length_map]; omega, fun H4 S4 y h4 c4 k4 hy => ?_⟩
    obtain ⟨x0, hx0, rfl⟩ := List.mem_map.mp hy
    obtain ⟨xl0, d, pl, sp, k, p0, ps, rfl⟩ := hms2 _ hx0
    refine ⟨_, rfl, by show 1 ≤ sizeLine; omega, fun lf nlf => ?_⟩
    have dS : Ds (upd H4 lf (.lst [.int 2])) a c lf S4 2 := ⟨h4.keep (same_new nlf), upd_same, (ne_of_none h4.lst nlf).symm, (ne_of_none h4.cel nlf).symm⟩
    have k04 : Kept a c H H4 := km3.trans k4
    refine ⟨a, c, lf, S4, 2, 1, "E", rfl, dS, by decide +kernel, by decide, by decide, by decide, by decide, by omega, fun H5 S5 x i5 h5 k5 at5 md5 ls5 ln5 ht5 wd5 c5 => ?_⟩
    have k05 : Kept a c H H5 := fun b o n1 n2 e => by
      have e4 := k04 b o n1 n2 e
      refine k5 b o ?_ (same_new nlf _ _ e4)
      have n3 := ne_of_none e4 nlf
      simp only [List.mem_cons, List.not_mem_nil, or_false, not_or]
      exact ⟨n1, n2, n3⟩
    have noX : ∀ b, was (upd H4 lf (.lst [.int 2])) b → res (was (upd H4 lf (.lst [.int 2]))) H5 b = none := fun b z => by
      cases e : res (was (upd H4 lf (.lst [.int 2]))) H5 b with
      | none => rfl
      | some o => exact absurd z (res_at e).1
    have wA := was_of dS.st.lst
    have wC := was_of dS.st.cel
    refine ⟨_, _, rfl, d, pl, sp, k, p0 :: ps, x, S5, res (was (upd H4 lf (.lst [.int 2]))) H5, rfl, xl0, Nat.zero_lt_succ _, h5, by omega, k05, ⟨at5, res_out, fun b o g i => ?_, md5, ls5⟩, noX a wA, noX c wC, i5, ht5, wd5, by omega⟩
    obtain ⟨nw, g5⟩ := res_at g
    have n1 : b ≠ a := fun z => nw (z ▸ wA)
    have n2 : b ≠ c := fun z => nw (z ▸ wC)
    refine ⟨?_, n1, n2⟩
    cases tb : T b with
    | none => rfl
    | some u =>
      have e5 := k05 b u n1 n2 (sT _ _ tb)
      rw [g5] at e5
      cases e5
      exact absurd ⟨_, same_new nlf _ _ (k04 b _ n1 n2 (sT _ _ tb)), i⟩ nw
  rintro σ H4 ⟨d, pl, sp, k, ps, x, S4, X0, rfl, xl0, psl0, h4, c4, k4, nwx, xa0, xc0, ix, hx, wx, lx⟩
  have x0at := (atl _ xl0).1
  have x0w := msN_wid 103 m l hms _ xl0
  obtain ⟨u0, su⟩ := msN_so 103 m l v hms wd.so _ xl0
  cases x0at with
  | @md _ _ _ _ _ sx h1 h2 h3 h4' h5' h6 h7 h8 =>
  cases su with
  | @md _ _ _ p dx dn _ _ rs mm vs g1 g2 g3 row hvl g6 sl =>
  obtain ⟨okr, same⟩ := fields_row row
  have rl := sameRow_len same
  have hs7 := rows_small row
  have hnn := rows_nodup row
  have nln : (namesOf rs).length = rs.length := by unfold namesOf; rw [List.length_map]
  have lps : ps.length = rs.length := by omega
  have lvs : vs.length = rs.length := hvl
  have gP : ∀ {H6 : Hp}, Same T H6 → DGet H6 d (.str "parts") (some (.ref pl)) ∧ H6 pl = some (.lst (ps.map MT.val)) := fun sx => by
    have z := DGet.k (k := Sum.inr "parts") (sx _ _ h1)
    rw [show valV (mdKv k pl sp (nd d)) (Sum.inr "parts") = some (V.ref pl) from by unfold mdKv; cases nd d <;> rfl] at z
    exact ⟨z, sx _ _ h2⟩
  have gK : ∀ {H6 : Hp}, Same T H6 → DGet H6 d (.str "kind") (some (.str k)) := fun sx => by
    have z := DGet.k (k := Sum.inr "kind") (sx _ _ h1)
    rw [show valV (mdKv k pl sp (nd d)) (Sum.inr "kind") = some (V.str k) from by unfold mdKv; cases nd d <;> rfl] at z
    exact z
  have gN : ∀ {H6 : Hp}, Same T H6 → DGet H6 d (.str "node") (some (.ref p)) := fun sx => by
    have z := DGet.k (k := Sum.inr "node") (sx _ _ h1)
    rw [show valV (mdKv k pl sp (nd d)) (Sum.inr "node") = some (V.ref p) from by rw [g1]; rfl] at z
    exact z
  have sT4 := tk k4
  -- the index and the node
  refine ⟨fun σ H5 => ∃ (j : Nat) (S5 : Stm), σ = [some (.ref a), some m.val, some (.ref L), some (.ref d), some x.val, some (.int j), some (.ref p), none, none] ∧ j < ps.length ∧ StmAt H5 a c S5 ∧ S5.cnt ≤ S.cnt + 2762 ∧ Kept a c H4 H5, ?_, ?_⟩
  · refine ⟨_, rfl, _, rfl, d, _, rfl, (gP sT4).1, pl, _, rfl, .inl (SqL.of (gP sT4).2), a, c, S4, _, rfl, h4, by omega, by rw [List.length_map]; omega, by rw [List.length_map]; omega, fun H5 S5 r h5 c5 k5 r0 r1 => ?_⟩
    obtain ⟨j, rfl⟩ : ∃ j : Nat, r = (j : Int) := ⟨r.toNat, by omega⟩
    rw [List.length_map] at r1
    exact ⟨_, rfl, d, _, rfl, gN (tk (k4.trans k5)), _, _, rfl, j, S5, rfl, by omega, h5, by omega, k5⟩
  rintro σ H5 ⟨j, S5, rfl, hj, h5, c5, k5⟩
  obtain ⟨y, hy⟩ : ∃ y, ps[j]? = some y := ⟨_, List.getElem?_eq_getElem hj⟩
  obtain ⟨nm, hnm⟩ : ∃ nm, (namesOf rs)[j]? = some nm := ⟨_, List.getElem?_eq_getElem (by omega)⟩
  obtain ⟨vj, hvj⟩ : ∃ vj, vs[j]? = some vj := ⟨_, List.getElem?_eq_getElem (by omega)⟩
  have hyv : (ps.map MT.val)[j]? = some y.val := by rw [List.getElem?_map, hy]; rfl
  have k45 := k4.trans k5
  have sT5 := tk k45
  have yat := h8.mem y (List.mem_of_getElem? hy)
  have yw : y.wid ≤ m.wid := by
    have z := widL_mem (List.mem_of_getElem? hy)
    rw [wid_md] at x0w
    omega
  -- its name, the part
  refine ⟨fun σ H6 => σ = [some (.ref a), some m.val, some (.ref L), some (.ref d), some x.val, some (.int j), some (.ref p), some (.str nm), some y.val] ∧ Same H5 H6, ?_, ?_⟩
  · refine ⟨_, rfl, d, _, rfl, gK sT5, k, rfl, okr, fun H6 fl s6 fa => ?_⟩
    obtain ⟨nfl, as, hfl, las, hat⟩ := fa
    obtain ⟨b, hb⟩ : ∃ b, as[j]? = some b := ⟨_, List.getElem?_eq_getElem (by omega)⟩
    obtain ⟨fp, hfp⟩ : ∃ fp, (fieldsP k)[j]? = some fp := ⟨_, List.getElem?_eq_getElem (by omega)⟩
    obtain ⟨nb, hb3⟩ := hat j b fp hb hfp
    obtain ⟨nm', hd', r, rfl, hr', enm⟩ := sameRow_at same hfp
    have hnm' : (namesOf rs)[j]? = some nm' := by
      unfold namesOf
      rw [List.getElem?_map, hr', ← enm]
      rfl
    rw [hnm] at hnm'
    cases hnm'
    have hbm : (as.map V.ref)[j]? = some (.ref b) := by rw [List.getElem?_map, hb]; rfl
    have sT6 : Same T H6 := sT5.trans s6
    exact ⟨_, rfl, fl, _, _, _, rfl, rfl, SqL.of hfl, atI_nat hbm, b, _, _, _, rfl, rfl, SqT.of hb3, rfl, _, rfl, d, _, rfl, (gP sT6).1, _, rfl, pl, _, _, _, rfl, rfl, SqL.of (gP sT6).2, atI_nat hyv, _, _, rfl, rfl, s6⟩
  rintro σ H6 ⟨rfl, s6⟩
  have k06 : Kept a c H H6 := k45.trans (Kept.same s6)
  have k46 : Kept a c H4 H6 := k5.trans (Kept.same s6)
  have h6' := h5.keep s6
  have newK : ∀ {H7 : Hp}, Kept a c H4 H7 → New Cs T X0 H7 a c x := fun k7 => ⟨nwx.at_, fun b o e => k7 b o (fun z => by rw [z, xa0] at e; cases e) (fun z => by rw [z, xc0] at e; cases e) (nwx.sm _ _ e), nwx.xd, nwx.nd, nwx.nl⟩
  have nd1m : ∀ (xs : List Addr), (∀ d ∈ xs, T d = none) → ∀ d ∈ m.mds, (if d ∈ xs then none else nd d) = nd d := fun xs hn d hd => if_neg fun z => by
    obtain ⟨_, e⟩ := hm.has d hd
    rw [hn d z] at e; cases e
  have ddW : ∀ {H7 : Hp} {pq : Addr} {us : List V}, DdOk (was H7) (upd H7 pq (.lst us)) := fun {H7 pq us} b ⟨o, g, i⟩ => by
    by_cases z : b = pq
    · rw [z]; exact ⟨_, upd_same, rfl⟩
    · exact ⟨o, by rw [upd_ne z]; exact g, i⟩
  refine ⟨fun σ H7 => ∃ S7, σ = [some (.ref a), some m.val, some (.ref L), some (.ref d), some x.val, some (.int j), some (.ref p), some (.str nm), some y.val] ∧ StmAt H7 a c S7 ∧ S7.cnt ≤ S.cnt + 2763 ∧ Kept a c H H7 ∧ Kept a c H4 H7, ?_, ?_⟩
  · obtain ⟨ty, hty, kl, _⟩ := (yat.up (tk k06)).ty W
    refine ⟨_, rfl, y.val, .ty "list", _, _, _, rfl, .ty _, hty, kl, _, rfl, ?_⟩
    cases hls : isLs y with
    | false => exact iteF ⟨S5, rfl, h6', by omega, k06, k46⟩
    | true =>
      refine iteT ⟨_, rfl, a, c, S5, 2, rfl, h6', by omega, by decide, by decide, fun H7 S7 r h7 c7 k7 r0 r1 => ⟨rfl, _, rfl, ?_⟩⟩
      have k07 := k06.trans k7
      have k47 := k46.trans k7
      refine ite2 (fun _ => ?_) fun _ => ⟨S7, rfl, h7, by omega, k07, k47⟩
      cases y with
      | at_ _ => cases hls
      | md _ _ _ _ _ => cases hls
      | tu _ _ => cases hls
      | ls b items =>
      cases yat with
      | ls hb hl0 hitems =>
      have sli := sl.get hy hvj
      cases sli with
      | @ls _ D _ us hD sus =>
      have sT7 := tk k07
      rw [wid_ls] at yw
      have hb7 := sT7 _ _ hb
      refine ⟨fun σ H8 => σ = [some (.ref a), some m.val, some (.ref L), some (.ref d), some x.val, some (.int j), some (.ref p), some (.str nm), some (.ref b)] ∧ H8 = upd H7 b (.lst ((items ++ [x]).map MT.val)), ?_, ?_⟩
      · refine ⟨_, rfl, .inl ⟨rfl, _, SqL.of hb7⟩, _, rfl, b, _, _, rfl, rfl, hb7, by rw [List.length_map]; omega, rfl, ?_⟩
        rw [List.map_append]
        rfl
      rintro σ H8 ⟨rfl, rfl⟩
      have nw7 := newK k47
      have xT : ∀ d ∈ x.mds, T d = none := fun d hd => (nw7.mds d hd).1
      have e1 := nd1m x.mds xT
      have e2 : ∀ d ∈ x.mds, (if d ∈ x.mds then none else nd d) = none := fun d hd => if_pos hd
      obtain ⟨u1, su1, flnk⟩ := msN_lnk (a := b) (xs := items) (ys := items ++ [x]) (e := D) (rs := []) (b := false) (us := us) 103 m l v hms wd.so _ xl0
      obtain ⟨qs, cq, lq⟩ := at_lnk (C := C) (nd := nd) (R := T) (Chg.ls (a := b) (xs := items) (ys := items ++ [x]) (by rw [List.length_append, List.length_singleton]; omega)) (Lnk.ls (e := D) (rs := []) (b := false) (us := us) rfl) hy hvj
      cases su1 with
      | @md _ _ _ p1 _ _ _ _ _ _ _ k1 k2 k3 k4 k5 k6 ks =>
      rw [g1] at k1
      cases k1
      obtain ⟨m', cm, lm⟩ := flnk _ (.mdIn cq) (.mdIn g1 g2 g3 row hvl lq)
      have pn : b ≠ p := fun z => by rw [z, g2] at hb; cases hb
      have pdn : b ≠ dn := fun z => by rw [z, g3] at hb; cases hb
      have pD : b ≠ D := fun z => by
        obtain ⟨e1, e2, e3⟩ := (⟨wd.ap, Lnk.in_ lm wd.own, cm.in_⟩ : _ ∧ _ ∧ _)
        exact (e1 D e2).2 (z ▸ e3)
      refine ⟨fun σ H10 => Q .non H10, ?_, fun σ H10 z => z⟩
      refine ⟨_, rfl, _, rfl, p, dx, dn, nm, _, _, .ref D, rfl, rfl, by rw [upd_ne pn.symm]; exact sT7 _ _ g2, rfl, by rw [upd_ne pdn.symm]; exact sT7 _ _ g3, valV_fkv hnn hnm hvj, .inl ⟨rfl, _, SqL.of (by rw [upd_ne pD.symm]; exact sT7 _ _ hD)⟩, ?_⟩
      refine ⟨_, rfl, fun d => if d ∈ x.mds then none else nd d, was H7, x, rfl, nw7.at1 hb e2 rfl sT7, ix, by omega, nw7.nd, fun d hd => by
        obtain ⟨_, _, _, _, g⟩ := nw7.mds d hd
        exact was_of g, ddW, fun H9 w1 nd2 Mv9 _ _ so fr => ?_⟩
      obtain ⟨j1, j2, j3, j4, j5, j6, j7, j8, j9⟩ := joint sT7 ta tc (was_of h7.lst) (was_of h7.cel) wd nw7 cm e1 e2 Mv9 so fr lm hD .l sus
      refine ⟨D, _, _, rfl, rfl, j1, ?_, ?_⟩
      · have := sus.len
        omega
      obtain ⟨T', A', t1, t2, t3, t4⟩ := j9 _ _ .app .l
      have sz := (Chg.size cm).2
      rw [mdsL_app, List.length_append, mdsL_cons, mdsL_nil, List.append_nil] at sz
      refine q _ S7 nd2 T' m' A' (j8 S7 _ h7) t1 t2 t3 t4 (cm.isMd_.trans hmd) cm.val (Chg.hgt_ (by rw [hgtL_app, hgtL_cons, hgtL_nil]; omega) cm) (by omega) (Chg.wid_ ?_ ?_ cm (by omega)) (by omega)
      · rw [widL_app, widL_cons, widL_nil]
        have := Chg.widX cm
        omega
      · rw [List.length_append, List.length_singleton]
        omega
  rintro σ H7 ⟨S7, rfl, h7, c7, k07, k47⟩
  have sT7 := tk k07
  refine ⟨fun σ H8 => ∃ (x' : MT) (X1 G : Hp) (S8 : Stm), σ = [some (.ref a), some m.val, some (.ref L), some (.ref d), some x.val, some (.int j), some (.ref p), some (.str nm), some y.val] ∧ StmAt G a c S8 ∧ S8.cnt ≤ S.cnt + 2764 ∧ Same T G ∧ New Cs T X1 G a c x' ∧ x'.hgt ≤ 17 ∧ x'.wid ≤ 50 ∧ x'.mds.length ≤ 46 ∧ H8 = upd G pl (.lst ((ps.set j x').map MT.val)), ?_, ?_⟩
  · refine ⟨_, rfl, _, rfl, by show 2 ≤ sizeLine; omega, fun li nli => ?_⟩
    have s_li := same_new (o := .lst [x.val, .non]) nli
    have u_li : (upd H7 li (.lst [x.val, .non])) li = some (.lst [x.val, .non]) := upd_same
    generalize upd H7 li (.lst [x.val, .non]) = G1 at s_li u_li ⊢
    refine ⟨by show 4 ≤ sizeLine; omega, fun lo nlo => ?_⟩
    have s_lo := same_new (o := .lst [x.val, .ref li, .non, .str "b"]) nlo
    have u_lo : (upd G1 lo (.lst [x.val, .ref li, .non, .str "b"])) lo = some (.lst [x.val, .ref li, .non, .str "b"]) := upd_same
    generalize upd G1 lo (.lst [x.val, .ref li, .non, .str "b"]) = G2 at s_lo u_lo ⊢
    have s72 := s_li.trans s_lo
    have h2g := h7.keep s72
    refine ⟨_, rfl, a, c, S7, 4, rfl, h2g, by omega, by decide, by decide, fun H8 S8 r h8 c8 k8 r0 r1 => ?_⟩
    have k78 : Kept a c H7 H8 := (Kept.same s72).trans k8
    have sT8 := tk (k07.trans k78)
    have nw8 := newK (k47.trans k78)
    have liT : T li = none := by
      cases tb : T li with
      | none => rfl
      | some u => rw [sT7 _ _ tb] at nli; cases nli
    have lia : li ≠ a := fun z => by rw [z, h7.lst] at nli; cases nli
    have lic : li ≠ c := fun z => by rw [z, h7.cel] at nli; cases nli
    have loa : lo ≠ a := fun z => by have y := s_li _ _ h7.lst; rw [← z, nlo] at y; cases y
    have loc : lo ≠ c := fun z => by have y := s_li _ _ h7.cel; rw [← z, nlo] at y; cases y
    have li8 := k8 _ _ lia lic (s_lo _ _ u_li)
    have lo8 := k8 _ _ loa loc u_lo
    have hjl : j < (ps.map MT.val).length := by rw [List.length_map]; exact hj
    have nwA : ∀ {vv : V}, Cst Cs (fun _ => none) vv → New Cs T (fun _ => none) H8 a c (.at_ vv) := fun hcst => ⟨.at_ (hcst.map fun b o _ e => e), fun b o e => (by cases e), fun b o e => (by cases e), by rw [mds_at]; exact List.nodup_nil, by rw [lsa_at]; exact List.nodup_nil⟩
    have fin : ∀ (x' : MT) (X1 : Hp) (vv : V), vv = x'.val → New Cs T X1 H8 a c x' → x'.hgt ≤ 17 → x'.wid ≤ 50 → x'.mds.length ≤ 46 → ∃ (x1 : MT) (X1 G : Hp) (S8 : Stm), ([some (.ref a), some m.val, some (.ref L), some (.ref d), some x.val, some (.int j), some (.ref p), some (.str nm), some y.val] : L2.St) = [some (.ref a), some m.val, some (.ref L), some (.ref d), some x.val, some (.int j), some (.ref p), some (.str nm), some y.val] ∧ StmAt G a c S8 ∧ S8.cnt ≤ S.cnt + 2764 ∧ Same T G ∧ New Cs T X1 G a c x1 ∧ x1.hgt ≤ 17 ∧ x1.wid ≤ 50 ∧ x1.mds.length ≤ 46 ∧ upd H8 pl (.lst ((ps.map MT.val).set j vv)) = upd G pl (.lst ((ps.set j x1).map MT.val)) := by
      rintro x' X1 vv rfl z1 z2 z3 z4
      exact ⟨x', X1, H8, S8, rfl, h8, by omega, sT8, z1, z2, z3, z4, by rw [List.map_set]⟩
    obtain ⟨i, rfl⟩ : ∃ i : Nat, r = (i : Int) := ⟨r.toNat, by omega⟩
    rcases (by omega : i = 0 ∨ i = 1 ∨ i = 2 ∨ i = 3) with rfl | rfl | rfl | rfl
    · exact ⟨lo, _, _, _, rfl, rfl, SqL.of lo8, atI_nat (j := 0) rfl, _, rfl, d, _, rfl, (gP sT8).1, _, rfl, pl, _, _, j, rfl, rfl, (gP sT8).2, ixN_natM hjl, fin x X0 _ rfl nw8 (by omega) wx lx⟩
    · refine ⟨lo, _, _, _, rfl, rfl, SqL.of lo8, atI_nat (j := 1) rfl, _, rfl, d, _, rfl, (gP sT8).1, _, rfl, pl, _, _, j, rfl, rfl, (gP sT8).2, ixN_natM hjl, fin (.ls li [x, .at_ .non]) (upd X0 li (.lst [x.val, .non])) _ rfl ⟨?_, fun b o e => ?_, fun b o e i => ?_, ?_, ?_⟩ ?_ ?_ ?_⟩
      · have x0li : X0 li = none := by
          cases e : X0 li with
          | none => rfl
          | some o => rw [(newK k47).sm _ _ e] at nli; cases nli
        exact .ls upd_same (by show 2 ≤ 100; decide) (.cons (nwx.at_.up (same_new x0li)) (.cons (.at_ .non) .nil))
      · by_cases z : b = li
        · subst z
          rw [upd_same] at e
          rw [li8]
          exact e
        · rw [upd_ne z] at e
          exact nw8.sm _ _ e
      · by_cases z : b = li
        · subst z
          exact ⟨liT, lia, lic⟩
        · rw [upd_ne z] at e
          exact nwx.xd _ _ e i
      · rw [mds_ls, mdsL_cons, mdsL_cons, mdsL_nil, mds_at]
        simpa using nwx.nd
      · rw [lsa_ls, lsaL_cons, lsaL_cons, lsaL_nil, lsa_at, List.nodup_cons]
        refine ⟨fun z => ?_, by simpa using nwx.nl⟩
        have z : li ∈ x.lsa := by simpa using z
        obtain ⟨_, _, _, _, e⟩ := (newK k47).lsa li z
        rw [nli] at e; cases e
      · rw [hgt_ls, hgtL_cons, hgtL_cons, hgtL_nil, hgt_at]
        omega
      · rw [wid_ls, widL_cons, widL_cons, widL_nil, wid_at, List.length_cons, List.length_cons, List.length_nil]
        omega
      · rw [mds_ls, mdsL_cons, mdsL_cons, mdsL_nil, mds_at]
        simpa using lx
    · exact ⟨lo, _, _, _, rfl, rfl, SqL.of lo8, atI_nat (j := 2) rfl, _, rfl, d, _, rfl, (gP sT8).1, _, rfl, pl, _, _, j, rfl, rfl, (gP sT8).2, ixN_natM hjl, fin (.at_ .non) _ _ rfl (nwA .non) (by rw [hgt_at]; omega) (by rw [wid_at]; omega) (by rw [mds_at]; exact Nat.zero_le _)⟩
    · exact ⟨lo, _, _, _, rfl, rfl, SqL.of lo8, atI_nat (j := 3) rfl, _, rfl, d, _, rfl, (gP sT8).1, _, rfl, pl, _, _, j, rfl, rfl, (gP sT8).2, ixN_natM hjl, fin (.at_ (.str "b")) _ _ rfl (nwA (.str _)) (by rw [hgt_at]; omega) (by rw [wid_at]; omega) (by rw [mds_at]; exact Nat.zero_le _)⟩
  rintro σ H8 ⟨x', X1, G, S8, rfl, h8, c8, sTG, nwG, hx', wx', lx', rfl⟩
  have dpl : d ≠ pl := fun z => by rw [z, h2] at h1; cases h1
  have ppl : p ≠ pl := fun z => by rw [z, h2] at g2; cases g2
  have gd8 : DGet (upd G pl (.lst ((ps.set j x').map MT.val))) d (.str "parts") (some (.ref pl)) := by
    have z := DGet.k (k := Sum.inr "parts") (show (upd G pl (.lst ((ps.set j x').map MT.val))) d = some (.dK (mdKv k pl sp (nd d))) from by rw [upd_ne dpl]; exact sTG _ _ h1)
    rw [show valV (mdKv k pl sp (nd d)) (Sum.inr "parts") = some (V.ref pl) from by unfold mdKv; cases nd d <;> rfl] at z
    exact z
  have xT : ∀ d ∈ x'.mds, T d = none := fun d hd => (nwG.mds d hd).1
  have e1 := nd1m x'.mds xT
  have e2 : ∀ d ∈ x'.mds, (if d ∈ x'.mds then none else nd d) = none := fun d hd => if_pos hd
  obtain ⟨u1, su1, flnk⟩ := msN_lnk (a := pl) (xs := ps) (ys := ps.set j x') (e := dn) (rs := rs) (b := true) (us := vs) 103 m l v hms wd.so _ xl0
  cases su1 with
  | @md _ _ _ p1 _ _ _ _ _ _ _ k1 k2 k3 k4 k5 k6 ks =>
  rw [g1] at k1
  cases k1
  obtain ⟨m', cm, lm⟩ := flnk _ (.md (List.length_set ..)) (.md rfl g1 g2 row)
  refine ⟨fun σ H10 => Q .non H10, ?_, fun σ H10 z => z⟩
  refine ⟨_, rfl, d, _, rfl, gd8, _, rfl, pl, _, _, _, rfl, rfl, SqL.of upd_same, atI_nat (j := j) (by rw [List.getElem?_map, List.getElem?_set_self hj]; rfl), ?_⟩
  refine ⟨fun d => if d ∈ x'.mds then none else nd d, was G, x', rfl, nwG.at1 h2 e2 rfl sTG, by omega, nwG.nd, fun d hd => by
    obtain ⟨_, _, _, _, g⟩ := nwG.mds d hd
    exact was_of g, ddW, fun H9 w1 nd2 Mv9 _ _ so fr => ?_⟩
  obtain ⟨j1, j2, j3, j4, j5, j6, j7, j8, j9⟩ := joint sTG ta tc (was_of h8.lst) (was_of h8.cel) wd nwG cm e1 e2 Mv9 so fr lm g3 (.f hvl) sl
  have lall : vs.length = (namesOf rs).length := by omega
  refine ⟨_, rfl, _, rfl, p, dx, dn, nm, _, _, vj, rfl, rfl, j7 p _ ppl (sTG _ _ g2) g2, rfl, j1, valV_fkv hnn hnm hvj, ?_, ?_⟩
  · have := fkv_len (ns := namesOf rs) (vs := vs) (by omega)
    omega
  rw [fkv_set hnn lall hnm]
  obtain ⟨T', A', t1, t2, t3, t4⟩ := j9 _ _ (.set j) (.f (by rw [List.length_set]; exact hvl))
  have sz := (Chg.size cm).2
  have szl := mdsL_setLen (x := x') (ms := ps) j
  refine q _ S8 nd2 T' m' A' (j8 S8 _ h8) t1 t2 t3 t4 (cm.isMd_.trans hmd) cm.val (Chg.hgt_ (by have := hgtL_set (x := x') (ms := ps) j; omega) cm) (by omega) (Chg.wid_ ?_ ?_ cm (by omega)) (by omega)
  · have := widL_set (x := x') (ms := ps) j
    have := Chg.widX cm
    omega
  · rw [List.length_set]
    omega
end
end M4

namespace M4
open PySem PySem.Spec PyProof.Rows L2 StX TL
/-! ### nodes made by Node(kind, *parts): their walks -/
section
variable {K : PySem.W.Frag} {C : Addr} {Cs : Nat → Addr} {H H0 H' : Hp}
/-- a node with its ctx -/
def Row (C : Addr) (H : Hp) (r c : Addr) : Prop := ∃ dx d k m rs vs, H r = some (.ins C dx (nodeFs k m d)) ∧ H d = some (.dK (fkv (namesOf rs) vs)) ∧ valV (fkv (namesOf rs) vs) (.inr "ctx") = some (.ref c)
theorem Row.up {r c : Addr} (h : Row C H r c) (s : Same H H') : Row C H' r c := by
  obtain ⟨dx, d, k, m, rs, vs, h1, h2, h3⟩ := h
  exact ⟨dx, d, k, m, rs, vs, s _ _ h1, s _ _ h2, h3⟩
def rsNm : List (Str × Str × Str) := [("id", "NAME", ""), ("ctx", "CONTEXT", "")]
def rsAt : List (Str × Str × Str) := [("value", "EXPR", ""), ("attr", "NAME", ""), ("ctx", "CONTEXT", "")]
def rsCo : List (Str × Str × Str) := [("value", "VALUE", "")]
def rsLi : List (Str × Str × Str) := [("elts", "EXPR", "*"), ("ctx", "CONTEXT", "")]
theorem rowNm : Fld.lookup ("Name" : Str) = some rsNm := by decide +kernel
theorem rowAt : Fld.lookup ("Attribute" : Str) = some rsAt := by decide +kernel
theorem rowCo : Fld.lookup ("Constant" : Str) = some rsCo := by decide +kernel
theorem rowLi : Fld.lookup ("List" : Str) = some rsLi := by decide +kernel
theorem node_of {p dx : Addr} {fs : List (Str × V)} (h : H p = some (.ins C dx fs)) : nodeOf C H (.ref p) = some p ∧ isL H (.ref p) = false := by
  refine ⟨?_, ?_⟩
  · show nodeO C p (H p) = some p
    rw [h]
    exact if_pos rfl
  · show isLO (H p) = false
    rw [h]; rfl
theorem node_itm (Ni : NodeI K C) {p dx : Addr} {fs : List (Str × V)} (h : H p = some (.ins C dx fs)) : Itm K C H (.ref p) ∧ Vlu K C H (.ref p) ∧ kidsV C H (.ref p) = [p] := by
  obtain ⟨nn, il⟩ := node_of h
  have tyn : TyX K H (.ref p) (.ref C) := .base (.ins h Ni.cl Ni.ha Ni.hn Ni.ht Ni.hm)
  have it : Itm K C H (.ref p) := ⟨fun b e => by cases e; rw [h]; simp, .ref C, tyn, by rw [nn]; exact Ni.sf⟩
  exact ⟨it, .inr ⟨it, il, .ref C, tyn, Ni.nl⟩, by rw [kidsV_one il, nn]; rfl⟩
theorem Tr.ins {p : Addr} {l : List Addr} (h : Tr K C H p l) : ∃ dx fs, H p = some (.ins C dx fs) := by
  obtain ⟨k, vs, ls, _, ⟨dx, d, m, rs, h1, _⟩, _⟩ := h.node
  exact ⟨_, _, h1⟩
theorem cst_vlu (W : ValI K C Cs) {v : V} (h : Cst Cs H v) : Vlu K C H v ∧ kidsV C H v = [] := by
  refine ⟨(ip_cst (nd := fun _ => none) W h).2.vl, ?_⟩
  rw [kidsV_one (cst_noL W h).2, (cst_noL W h).1]
  rfl
theorem no_mark : ("" : Str) ∉ marks := by decide +kernel
theorem df_ctx {mk : Str} (hm : mk ∉ marks) {v : V} (h : DefV C H0 H "ctx" mk v) : ∃ c dx d, v = .ref c ∧ H0 c = none ∧ H0 d = none ∧ H c = some (.ins C dx (nodeFs "Load" [] d)) ∧ H d = some (.dK []) := by
  rcases h with ⟨a, _⟩ | ⟨_, _, c, dx, d, e, n1, n2, g1, g2⟩ | ⟨_, b, _⟩
  · exact absurd a hm
  · exact ⟨c, dx, d, e, n1, n2, g1, g2⟩
  · exact absurd rfl b
theorem tr_load {c dx d : Addr} (h1 : H c = some (.ins C dx (nodeFs "Load" [] d))) (h2 : H d = some (.dK [])) : Tr K C H c [c] :=
  .mk (vs := []) ⟨dx, d, [], [], h1, h2, ld, rfl⟩ (fun v hv => by cases hv) .nil
theorem tr_name (W : ValI K C Cs) (Ni : NodeI K C) {p d : Addr} {ds : List V} (N : NewN C H0 H p "Name" [] rsNm [.str "a"] d ds) : ∃ c, Tr K C H p [p, c] ∧ Row C H p c := by
  obtain ⟨dx, hp⟩ := N.at_
  have hl : ds.length = 1 := by have := N.len; rw [List.length_append] at this; simp [rsNm] at this; omega
  obtain ⟨v, rfl⟩ := List.length_eq_one_iff.mp hl
  obtain ⟨c, dc, e, rfl, _, _, hc, he⟩ := df_ctx no_mark (N.df 0 v ("ctx", "CONTEXT", "") rfl rfl)
  obtain ⟨_, vc, kc⟩ := node_itm Ni hc
  obtain ⟨va, ka⟩ := cst_vlu (H := H) W (.str "a")
  have tl : TrL K C H (kidsL C H [.str "a", .ref c]) [c] := by
    rw [show kidsL C H [.str "a", .ref c] = kidsV C H (.str "a") ++ (kidsV C H (.ref c) ++ []) from rfl, ka, kc]
    exact .cons (tr_load hc he) .nil
  refine ⟨c, .mk (vs := [.str "a", .ref c]) ⟨dx, d, [], rsNm, hp, N.dk, rowNm, rfl⟩ (fun v hv => ?_) tl, dx, d, "Name", [], rsNm, _, hp, N.dk, rfl⟩
  simp only [List.mem_cons, List.not_mem_nil, or_false] at hv
  rcases hv with rfl | rfl
  · exact va
  · exact vc
theorem tr_attr (W : ValI K C Cs) (Ni : NodeI K C) {p q d : Addr} {l : List Addr} {ds : List V} (N : NewN C H0 H p "Attribute" [] rsAt [.ref q, .str "b"] d ds) (tq : Tr K C H0 q l) : ∃ c, Tr K C H p (p :: l ++ [c]) ∧ Row C H p c := by
  obtain ⟨dx, hp⟩ := N.at_
  have hl : ds.length = 1 := by have := N.len; rw [List.length_append] at this; simp [rsAt] at this; omega
  obtain ⟨v, rfl⟩ := List.length_eq_one_iff.mp hl
  obtain ⟨c, dc, e, rfl, _, _, hc, he⟩ := df_ctx no_mark (N.df 0 v ("ctx", "CONTEXT", "") rfl rfl)
  obtain ⟨_, vc, kc⟩ := node_itm Ni hc
  obtain ⟨va, ka⟩ := cst_vlu (H := H) W (.str "b")
  have tq' := tq.up N.sm
  obtain ⟨dq, fq, hq⟩ := tq'.ins
  obtain ⟨_, vq, kq⟩ := node_itm Ni hq
  have tl : TrL K C H (kidsL C H [.ref q, .str "b", .ref c]) (l ++ [c]) := by
    rw [show kidsL C H [.ref q, .str "b", .ref c] = kidsV C H (.ref q) ++ (kidsV C H (.str "b") ++ (kidsV C H (.ref c) ++ [])) from rfl, ka, kc, kq]
    exact .cons tq' (.cons (tr_load hc he) .nil)
  refine ⟨c, .mk (vs := [.ref q, .str "b", .ref c]) ⟨dx, d, [], rsAt, hp, N.dk, rowAt, rfl⟩ (fun v hv => ?_) tl, dx, d, "Attribute", [], rsAt, _, hp, N.dk, rfl⟩
  simp only [List.mem_cons, List.not_mem_nil, or_false] at hv
  rcases hv with rfl | rfl | rfl
  · exact vq
  · exact va
  · exact vc
theorem tr_const (W : ValI K C Cs) {p d : Addr} {i : Int} {ds : List V} (N : NewN C H0 H p "Constant" [] rsCo [.int i] d ds) : Tr K C H p [p] := by
  obtain ⟨dx, hp⟩ := N.at_
  have hl : ds.length = 0 := by have := N.len; rw [List.length_append] at this; have e : rsCo.length = 1 := rfl; have e2 : ([V.int i] : List V).length = 1 := rfl; omega
  obtain rfl := List.length_eq_zero_iff.mp hl
  obtain ⟨va, ka⟩ := cst_vlu (H := H) W (.int i)
  have tl : TrL K C H (kidsL C H [.int i]) [] := by
    rw [show kidsL C H [.int i] = kidsV C H (.int i) ++ [] from rfl, ka]
    exact .nil
  refine .mk (vs := [.int i]) ⟨dx, d, [], rsCo, hp, N.dk, rowCo, rfl⟩ (fun v hv => ?_) tl
  rw [List.mem_singleton.mp hv]
  exact va
theorem trL_ones : ∀ {as : List Addr}, (∀ q ∈ as, Tr K C H q [q]) → TrL K C H as as
  | [], _ => .nil
  | q :: r, h => .cons (l := [q]) (h q (List.mem_cons_self ..)) (trL_ones fun x hx => h x (List.mem_cons_of_mem _ hx))
theorem nodes_ones {as : List Addr} (h : ∀ q ∈ as, Tr K C H q [q]) : (as.map V.ref).filterMap (nodeOf C H) = as := by
  induction as with
  | nil => rfl
  | cons q r ih =>
    obtain ⟨_, _, g⟩ := (h q (List.mem_cons_self ..)).ins
    rw [List.map_cons, List.filterMap_cons, (node_of g).1]
    exact congrArg (q :: ·) (ih fun x hx => h x (List.mem_cons_of_mem _ hx))
theorem tr_list (W : ValI K C Cs) (Ni : NodeI K C) {p d a : Addr} {as : List Addr} {ds : List V} (N : NewN C H0 H p "List" [] rsLi [.ref a] d ds) (ha : H0 a = some (.lst (as.map V.ref))) (la : as.length ≤ 1000) (ta : ∀ q ∈ as, Tr K C H0 q [q]) :
    ∃ c, Tr K C H p (p :: as ++ [c]) ∧ Row C H p c ∧ NodeAt C H p "List" [.ref a, .ref c] ∧ (∀ v ∈ [V.ref a, .ref c], Vlu K C H v) ∧ kidsL C H [.ref a, .ref c] = as ++ [c] := by
  obtain ⟨dx, hp⟩ := N.at_
  have hl : ds.length = 1 := by have := N.len; rw [List.length_append] at this; simp [rsLi] at this; omega
  obtain ⟨v, rfl⟩ := List.length_eq_one_iff.mp hl
  obtain ⟨c, dc, e, rfl, _, _, hc, he⟩ := df_ctx no_mark (N.df 0 v ("ctx", "CONTEXT", "") rfl rfl)
  obtain ⟨_, vc, kc⟩ := node_itm Ni hc
  have ha' := N.sm _ _ ha
  have ta' : ∀ q ∈ as, Tr K C H q [q] := fun q hq => (ta q hq).up N.sm
  have ka : kidsV C H (.ref a) = as := by rw [kidsV_lst ha', nodes_ones ta']
  have va : Vlu K C H (.ref a) := .inl ⟨a, _, rfl, ha', by rw [List.length_map]; exact la, fun x hx => by
    obtain ⟨q, hq, rfl⟩ := List.mem_map.mp hx
    obtain ⟨_, _, g⟩ := (ta' q hq).ins
    exact (node_itm Ni g).1⟩
  have kl : kidsL C H [.ref a, .ref c] = as ++ [c] := by
    rw [show kidsL C H [.ref a, .ref c] = kidsV C H (.ref a) ++ (kidsV C H (.ref c) ++ []) from rfl, ka, kc]
    rfl
  have tl : TrL K C H (kidsL C H [.ref a, .ref c]) (as ++ [c]) := by
    rw [kl]
    exact (trL_ones ta').app (.cons (l := [c]) (tr_load hc he) .nil)
  have vl : ∀ v ∈ [V.ref a, .ref c], Vlu K C H v := fun v hv => by
    simp only [List.mem_cons, List.not_mem_nil, or_false] at hv
    rcases hv with rfl | rfl
    · exact va
    · exact vc
  have na : NodeAt C H p "List" [.ref a, .ref c] := ⟨dx, d, [], rsLi, hp, N.dk, rowLi, rfl⟩
  exact ⟨c, .mk na vl tl, ⟨dx, d, "List", [], rsLi, _, hp, N.dk, rfl⟩, na, vl, kl⟩
/-- a new node stands apart from what stood -/
theorem NewN.res_ {B : Addr → Prop} {p d : Addr} {k : Str} {m : List (Key × V)} {rs : List (Str × Str × Str)} {parts ds : List V} (N : NewN C H0 H p k m rs parts d ds) (no : ∀ {b : Addr}, H0 b = none → ¬ B b) : NewN C (res B H0) (res B H) p k m rs parts d ds := by
  have nn : ∀ {b : Addr}, H0 b = none → res B H0 b = none := fun {b} e => by
    cases q : res B H0 b with
    | none => rfl
    | some o => rw [(res_at q).2] at e; cases e
  obtain ⟨dx, hp⟩ := N.at_
  refine ⟨res_up fun b o n e => ⟨n, N.sm _ _ e⟩, nn N.np, nn N.nd, ⟨dx, res_in (no N.np) hp⟩, res_in (no N.nd) N.dk, N.len, fun i v r h1 h2 => ?_, N.ap⟩
  exact (N.df i v r h1 h2).mono (fun b e => nn e) fun b o e g => res_in (no e) g
end
/-! ### _law_great_right -/
abbrev sGy : Stmt := topS 45
theorem scGy : FnScope ["_law_rows", "_law_some", "_law_k", "_law_wide", "_law_one"] [] (defScope sGy) := ⟨rfl, rfl, rfl, by decide +kernel, rfl, by decide +kernel, by decide +kernel⟩
def spGy : Sp := fun vs H Q _ => vs = [] ∧ ∀ H', Same H H' → Q (.bl true) H'
section
variable {P : Program} {w : World} {K : PySem.W.Frag} {mg : Str → Option Value} {base : Heap} {C : Addr} {Cs : Nat → Addr}
theorem ok_gy {f fI fWK fIC fG fS : Addr} {fd dWK dIC dG : FuncData} (F : Fun K "_law_great_right" "_law_great_right" sGy f fd) (Z : Blt mg) (W : ValI K C Cs) (Ni : NodeI K C) (Nc : NodeC K C fG fS)
    (GT : FnOk P w K mg base CX0 1 fG dG ["self", "at"] (spGet C)) (bG : Binds K dG ["self", "at"] []) (MK : Mk K C fI) (mN : mg "Node" = some (.ref C)) (NI : FnR P w K mg base CX0 5 fI (spIni 1 C))
    (WK : FnOk P w K mg base CX0 4 fWK dWK ["node"] (spWk K C)) (bWK : Binds K dWK ["node"] []) (kWK : PySem.W.keepIn K (.ref fWK) = true) (mWK : mg "walk" = some (.ref fWK))
    (IC : FnOk P w K mg base CX0 3 fIC dIC ["node"] (spIC K C)) (bIC : Binds K dIC ["node"] []) (kIC : PySem.W.keepIn K (.ref fIC) = true) (mIC : mg "iter_child_nodes" = some (.ref fIC)) : FnOk P w K mg base CX0 7 f fd [] spGy := by
  refine F.ok scGy (fun vs H Q E h => ?_) (fun cdv A outer s H us Q E hr h => ?_)
  · obtain ⟨rfl, _⟩ := h
    rfl
  obtain ⟨rfl, q⟩ := h
  have hr6 := hr
  have hr1 := hr.mono (show 2 ≤ 6 by decide)
  have hr3 := hr.mono (show 3 ≤ 6 by decide)
  have hr4 := hr.mono (show 4 ≤ 6 by decide)
  refine ⟨_, (C8.pss_cut (ps_par (by rfl) scGy.nd (i := 0) (j := 1) rfl rfl (by decide) rfl rfl (pa_cons (pe_lst (pa_cons (pe_node MK NI hr6 rfl mN (pa_cons pe_str (pa_cons pe_str pa_nil))) pa_nil)) (pa_cons (pe_lc (own := [("_law_k", 2)]) (g := gName 2) (tt := tYes) rfl scGy.nd (pi_range1 (by rfl) Z.rg (pa_cons pe_int pa_nil)) (blkOk_by (own := [("_law_k", 2)]) (N := ["_law_rows", "_law_some", "_law_k", "_law_wide", "_law_one"]) (sc := (defScope sGy)) (by decide +kernel)) (fun _ _ _ _ _ => (pg_name (i := 2) scGy.nd rfl (.inl rfl))) (fun _ _ _ _ _ => pts_nil) (fun _ _ _ _ _ => (pe_node MK NI hr6 rfl mN (pa_cons pe_str (pa_cons (pv 2) pa_nil))))) pa_nil)) (by rfl))
    (C8.pss_cut (ps_for PassesOwn.never rfl (pi_range1 (by rfl) Z.rg (pa_cons pe_int pa_nil)) (pg_name (i := 2) scGy.nd rfl (.inl rfl)) (pss_one (ps_expr (pe_bm PySem.F.plainAttrs_list PySem.F.slot_list_append PySem.F.type_list_append mt_append (pv 0) (pa_cons (pe_node MK NI hr6 rfl mN (pa_cons pe_str (pa_cons (pe_ix ix_list (pv 0) (pe_un un_neg pe_int) (fun _ _ => rfl)) (pa_cons pe_str pa_nil)))) pa_nil)))))
    (C8.pss_cut (ps_set (i := 3) scGy.nd rfl (.inl rfl) (pe_node MK NI hr6 rfl mN (pa_cons pe_str (pa_cons (pv 1) pa_nil))))
    (C8.pss_cut (ps_if (PW.pt (pw_or (pt_cmpR (op_neL hr.units) (pe_call WK hr4 rfl mWK kWK bWK .nil pass0 (pa_cons (pe_ix ix_list (pv 0) (pe_un un_neg pe_int) (fun _ _ => rfl)) pa_nil)) (pe_op op_cat (pe_revL (pv 0)) (pe_lc (own := [("_law_one", 4)]) (g := gName 4) (tt := tYes) rfl scGy.nd (pi_list (pv 0)) (blkOk_by (own := [("_law_one", 4)]) (N := ["_law_rows", "_law_some", "_law_k", "_law_wide", "_law_one"]) (sc := (defScope sGy)) (by decide +kernel)) (fun _ _ _ _ _ => (pg_name (i := 4) scGy.nd rfl (.inl rfl))) (fun _ _ _ _ _ => pts_nil) (fun _ _ _ _ _ => (ixnK (K := K) rfl Nc GT bG hr1 (pv 4) pe_str)))) (nomark _)) (pw_or1 (pt_cmpR (op_neL hr.units) (pe_call WK hr4 rfl mWK kWK bWK .nil pass0 (pa_cons (pv 3) pa_nil)) (pe_op op_cat (pe_op op_cat (pe_lst (pa_cons (pv 3) pa_nil)) (pv 1)) (pe_lst (pa_cons (ixnK (K := K) rfl Nc GT bG hr1 (pv 3) pe_str) pa_nil))) (nomark _))))) (pss_one (ps_ret pe_bl)) pss_nil)
    (pss_one (ps_ret (pe_cmpR (op_eqL hr.units) (pe_call IC hr3 rfl mIC kIC bIC .nil pass0 (pa_cons (pv 3) pa_nil)) (pe_op op_cat (pv 1) (pe_lst (pa_cons (ixnK (K := K) rfl Nc GT bG hr1 (pv 3) pe_str) pa_nil))) (nomark _)))))))), ?_⟩
  have zS : (100000 : Nat) ≤ sizeLine := by decide
  -- the name, the numbers
  refine ⟨fun σ H1 => ∃ (L D p0 c0 : Addr) (as : List Addr), σ = [some (.ref L), some (.ref D), none, none, none] ∧ Same H H1 ∧ H L = none ∧ L ≠ D ∧ H1 L = some (.lst [.ref p0]) ∧ H1 D = some (.lst (as.map V.ref)) ∧ as.length = 300 ∧ (∀ x ∈ as, Tr K C (res (fun b => b = L) H1) x [x]) ∧ Tr K C (res (fun b => b = L) H1) p0 [p0, c0] ∧ Row C (res (fun b => b = L) H1) p0 c0, ?_, ?_⟩
  · refine ⟨"Name", rsNm, [.str "a"], rfl, rowNm, by decide, .inl rfl, fun H1 p0 d0 ds0 N0 => ?_⟩
    obtain ⟨c0, t0, r0⟩ := tr_name W Ni N0
    refine ⟨by show 1 ≤ sizeLine; omega, fun L nL => ?_⟩
    have s2 := same_new (o := .lst [.ref p0]) nL
    have hL : (upd H1 L (.lst [.ref p0])) L = some (.lst [.ref p0]) := upd_same
    have r2 : Same H1 (res (fun b => b = L) (upd H1 L (.lst [.ref p0]))) := fun b o e => res_in (ne_of_none e nL) (s2 _ _ e)
    have t2 := t0.up r2
    have w2 := r0.up r2
    have s02 := N0.sm.trans s2
    have nL0 : H L = none := N0.sm.free nL
    generalize upd H1 L (.lst [.ref p0]) = H2 at s2 hL r2 t2 w2 s02 ⊢
    refine ⟨300, rfl, by decide, by decide, fun D nD => ?_⟩
    have LD : L ≠ D := ne_of_none hL nD
    refine lc_range (lo := 0) (n := 300) (fun j H3 => ∃ as : List Addr, Same H2 H3 ∧ H3 D = some (.lst (as.map V.ref)) ∧ as.length = j ∧ ∀ x ∈ as, Tr K C (res (fun b => b = L ∨ b = D) H3) x [x]) ⟨[], same_new nD, upd_same, rfl, fun x hx => by cases hx⟩ ?_ ?_
    · rintro j H3 hj ⟨as, s3, h3, las, tas⟩
      refine ⟨rfl, ?_⟩
      unfold tYes
      refine iteT ⟨_, rfl, "Constant", rsCo, [.int _], rfl, rowCo, by show 1 ≤ 1; decide, .inl rfl, fun H4 p d ds N => ?_⟩
      have hL3 := s3 _ _ hL
      have Nr := N.res_ (B := fun b => b = L ∨ b = D) fun {b} e z => by
        rcases z with z | z
        · rw [z, hL3] at e; cases e
        · rw [z, h3] at e; cases e
      have tn := tr_const W Nr
      have h4 := N.sm _ _ h3
      have s45 : Same (res (fun b => b = L ∨ b = D) H4) (res (fun b => b = L ∨ b = D) (upd H4 D (.lst (as.map V.ref ++ [.ref p])))) := res_up fun b o n e => ⟨n, by rw [upd_ne fun z => n (.inr z)]; exact e⟩
      refine ⟨_, h4, by rw [List.length_map]; omega, as ++ [p], fun b o e => ?_, ?_, by rw [List.length_append, las]; rfl, fun x hx => ?_⟩
      · rw [upd_ne (ne_of_none e nD)]
        exact N.sm _ _ (s3 _ _ e)
      · rw [upd_same, List.map_append]
        rfl
      · rcases List.mem_append.mp hx with hx | hx
        · exact (tas x hx).up (Nr.sm.trans s45)
        · rw [List.mem_singleton.mp hx]
          exact tn.up s45
    · rintro H3 ⟨as, s3, h3, las, tas⟩
      have s23 : Same (res (fun b => b = L) H2) (res (fun b => b = L) H3) := res_up fun b o n e => ⟨n, s3 _ _ e⟩
      exact ⟨_, _, rfl, L, D, p0, c0, as, rfl, s02.trans s3, nL0, LD, s3 _ _ hL, h3, las, fun x hx => (tas x hx).up (res_up fun b o n e => ⟨fun z => n (.inl z), e⟩), t2.up s23, w2.up s23⟩
  rintro σ H1 ⟨L, D, p0, c0, as, rfl, s1, nL, LD, hL1, hD1, las, tas, t0, r0⟩
  -- the chain
  refine ⟨fun σ H2 => ∃ (x2 : Option V) (ini cs : List Addr) (top : Addr), σ = [some (.ref L), some (.ref D), x2, none, none] ∧ (∀ b o, b ≠ L → H1 b = some o → H2 b = some o) ∧ H2 L = some (.lst ((ini ++ [top]).map V.ref)) ∧ ini.length = 34 ∧ cs.length = 35 ∧ Tr K C (res (fun b => b = L) H2) top ((ini ++ [top]).reverse ++ cs) ∧ ∀ (j : Nat) r c, (ini ++ [top])[j]? = some r → cs[j]? = some c → Row C (res (fun b => b = L) H2) r c, ?_, ?_⟩
  · refine ⟨34, rfl, by decide, by decide, for_range (lo := 0) (n := 34) (fun i σ H2 => ∃ (x2 : Option V) (ini cs : List Addr) (top : Addr), σ = [some (.ref L), some (.ref D), x2, none, none] ∧ (∀ b o, b ≠ L → H1 b = some o → H2 b = some o) ∧ H2 L = some (.lst ((ini ++ [top]).map V.ref)) ∧ ini.length = i ∧ cs.length = i + 1 ∧ Tr K C (res (fun b => b = L) H2) top ((ini ++ [top]).reverse ++ cs) ∧ ∀ (j : Nat) r c, (ini ++ [top])[j]? = some r → cs[j]? = some c → Row C (res (fun b => b = L) H2) r c)
      ⟨none, [], [c0], p0, rfl, fun _ _ _ e => e, hL1, rfl, rfl, t0, fun j r c e1 e2 => ?_⟩ ?_ ?_⟩
    · cases j with
      | zero =>
        cases e1
        cases e2
        exact r0
      | succ j => simp at e1
    · rintro i σ H2 hi ⟨x2, ini, cs, top, rfl, k2, hL2, li, lc, tt, rr⟩
      refine ⟨_, rfl, .inl ⟨rfl, _, SqL.of hL2⟩, _, rfl, _, rfl, L, _, _, _, rfl, rfl, SqL.of hL2, (by rw [List.map_append]; exact atI_last _ _), "Attribute", rsAt, [.ref top, .str "b"], rfl, rowAt, by show 2 ≤ 3; decide, .inl rfl, fun H3 p d ds N => ?_⟩
      have Nr := N.res_ (B := fun b => b = L) fun {b} e z => by rw [z, hL2] at e; cases e
      obtain ⟨c, tn, rn⟩ := tr_attr W Ni Nr tt
      have hL3 := N.sm _ _ hL2
      have s34 : Same (res (fun b => b = L) H3) (res (fun b => b = L) (upd H3 L (.lst ((ini ++ [top]).map V.ref ++ [.ref p])))) := res_up fun b o n e => ⟨n, by rw [upd_ne n]; exact e⟩
      refine ⟨L, _, _, rfl, rfl, hL3, by rw [List.length_map, List.length_append, List.length_singleton]; omega, _, ini ++ [top], cs ++ [c], p, rfl, fun b o n e => ?_, ?_, by rw [List.length_append, li]; rfl, by rw [List.length_append, lc]; rfl, ?_, fun j r c' e1 e2 => ?_⟩
      · rw [upd_ne n]
        exact N.sm _ _ (k2 _ _ n e)
      · rw [upd_same, List.map_append (l₁ := ini ++ [top])]
        rfl
      · have e : ((ini ++ [top]) ++ [p]).reverse ++ (cs ++ [c]) = p :: ((ini ++ [top]).reverse ++ cs) ++ [c] := by simp
        rw [e]
        exact tn.up s34
      · by_cases z : j < cs.length
        · rw [List.getElem?_append_left (by rw [List.length_append, List.length_singleton]; omega)] at e1
          rw [List.getElem?_append_left z] at e2
          exact (rr j r c' e1 e2).up (Nr.sm.trans s34)
        · have hj := (List.getElem?_eq_some_iff.mp e2).1
          rw [List.length_append, List.length_singleton] at hj
          have ej : j = cs.length := by omega
          subst ej
          rw [List.getElem?_append_right (Nat.le_refl _), Nat.sub_self] at e2
          rw [List.getElem?_append_right (by rw [List.length_append, List.length_singleton]; omega), show cs.length - (ini ++ [top]).length = 0 by rw [List.length_append, List.length_singleton]; omega] at e1
          cases e1
          cases e2
          exact rn.up s34
    · rintro σ H2 ⟨x2, ini, cs, top, h⟩
      exact ⟨x2, ini, cs, top, h⟩
  rintro σ H2 ⟨x2, ini, cs, top, rfl, k2, hL2, li, lc, tt, rr⟩
  have so : ∀ {Hx : Hp}, Same (res (fun b => b = L) Hx) Hx := fun {Hx} => res_out
  have hD2 := k2 _ _ LD.symm hD1
  have tas2 : ∀ x ∈ as, Tr K C H2 x [x] := fun x hx => ((tas x hx).up (res_up fun b o n e => ⟨n, k2 _ _ n e⟩)).up so
  -- the long list
  refine ⟨fun σ H3 => ∃ (pw cw : Addr), σ = [some (.ref L), some (.ref D), x2, some (.ref pw), none] ∧ Same H2 H3 ∧ Tr K C H3 pw (pw :: as ++ [cw]) ∧ Row C H3 pw cw ∧ NodeAt C H3 pw "List" [.ref D, .ref cw] ∧ (∀ v ∈ [V.ref D, .ref cw], Vlu K C H3 v) ∧ kidsL C H3 [.ref D, .ref cw] = as ++ [cw], ?_, ?_⟩
  · refine ⟨_, rfl, "List", rsLi, [.ref D], rfl, rowLi, by show 1 ≤ 2; decide, .inl rfl, fun H3 pw dw ds N => ?_⟩
    obtain ⟨cw, z1, z2, z3, z4, z5⟩ := tr_list W Ni N hD2 (by omega) tas2
    exact ⟨pw, cw, rfl, N.sm, z1, z2, z3, z4, z5⟩
  rintro σ H3 ⟨pw, cw, rfl, s3, tw, rw_, nw, vw, kw⟩
  have hL3 := s3 _ _ hL2
  have hD3 := s3 _ _ hD2
  have tt3 := tt.up (Same.trans so s3)
  have rr3 : ∀ (j : Nat) r c, (ini ++ [top])[j]? = some r → cs[j]? = some c → Row C H3 r c := fun j r c e1 e2 => (rr j r c e1 e2).up (Same.trans so s3)
  have sH : Same H H3 := fun b o e => s3 _ _ (k2 b o (fun z => by rw [z, nL] at e; cases e) (s1 _ _ e))
  have lall : ((ini ++ [top]).reverse ++ cs).length = 70 := by simp; omega
  -- [wide['ctx']]
  refine ⟨fun σ H4 => σ = [some (.ref L), some (.ref D), x2, some (.ref pw), none] ∧ Same H3 H4, ?_, ?_⟩
  · refine ⟨_, rfl, _, rfl, L, _, _, _, rfl, rfl, SqL.of hL3, (by rw [List.map_append]; exact atI_last _ _), top, _, rfl, tt3, by rw [lall]; decide, fun H4 F nF s4 hF => ?_⟩
    refine ⟨_, rfl, L, _, rfl, SqL.of (s4 _ _ hL3), fun R nR => ?_⟩
    have s5 := same_new (o := .lst ((ini ++ [top]).map V.ref).reverse) nR
    have hR : (upd H4 R (.lst ((ini ++ [top]).map V.ref).reverse)) R = some (.lst ((ini ++ [top]).map V.ref).reverse) := upd_same
    generalize upd H4 R (.lst ((ini ++ [top]).map V.ref).reverse) = H5 at s5 hR ⊢
    have s35 : Same H3 H5 := s4.trans s5
    refine ⟨_, rfl, L, rfl, ⟨_, SqL.of (s35 _ _ hL3)⟩, fun G nG => ?_⟩
    refine lc_list (K := K) (a := L) (xs := (ini ++ [top]).map V.ref) (fun j H6 => Same H5 H6 ∧ H6 G = some (.lst ((cs.take j).map V.ref))) ⟨same_new nG, upd_same⟩ (fun j H6 _ ⟨s6, _⟩ => SqL.of (s6 _ _ (s35 _ _ hL3))) ?_ ?_
    · rintro j x H6 hx ⟨s6, h6⟩
      rw [List.getElem?_map] at hx
      obtain ⟨r, hr', rfl⟩ := Option.map_eq_some_iff.mp hx
      have hj := (List.getElem?_eq_some_iff.mp hr').1
      rw [List.length_append, List.length_singleton] at hj
      obtain ⟨c, hc⟩ : ∃ c, cs[j]? = some c := ⟨_, List.getElem?_eq_getElem (by omega)⟩
      obtain ⟨dx, d, k, m, rs, vs, e1, e2, e3⟩ := (rr3 j r c hr' hc).up (s35.trans s6)
      refine ⟨rfl, ?_⟩
      unfold tYes
      refine iteT ⟨_, rfl, r, dx, d, "ctx", _, _, .ref c, rfl, rfl, e1, rfl, e2, e3, _, h6, by rw [List.length_map, List.length_take]; omega, fun b o e => ?_, ?_⟩
      · rw [upd_ne (ne_of_none e nG)]
        exact s6 _ _ e
      · rw [upd_same, List.take_succ, hc, List.map_append]
        rfl
    · rintro H6 ⟨s6, h6⟩
      rw [List.length_map, List.length_append, List.length_singleton, show ini.length + 1 = cs.length by omega, List.take_length] at h6
      refine ⟨R, G, _, _, rfl, rfl, s6 _ _ hR, h6, by rw [List.length_reverse, List.length_map, List.length_map, List.length_append]; simp; omega, fun q1 nq1 => ?_⟩
      have s7 := same_new (o := .lst (((ini ++ [top]).map V.ref).reverse ++ cs.map V.ref)) nq1
      have hF6 := (s5.trans s6) _ _ hF
      refine ⟨F, q1, _, _, rfl, rfl, s7 _ _ hF6, upd_same, ?_, _, rfl, iteF ?_⟩
      · rw [← List.map_reverse, ← List.map_append]
        exact eqZL_refs _
      have s37 : Same H3 (upd H6 q1 (.lst (((ini ++ [top]).map V.ref).reverse ++ cs.map V.ref))) := (s35.trans s6).trans s7
      generalize upd H6 q1 (.lst (((ini ++ [top]).map V.ref).reverse ++ cs.map V.ref)) = H7 at s37 ⊢
      refine ⟨_, rfl, pw, _, rfl, tw.up s37, by simp; omega, fun H8 F2 nF2 s8 hF2 => ?_⟩
      have s38 := s37.trans s8
      refine ⟨_, rfl, by show 1 ≤ sizeLine; omega, fun q2 nq2 => ?_⟩
      have s9 := same_new (o := .lst [.ref pw]) nq2
      have hq2 : (upd H8 q2 (.lst [.ref pw])) q2 = some (.lst [.ref pw]) := upd_same
      generalize upd H8 q2 (.lst [.ref pw]) = H9 at s9 hq2 ⊢
      have s39 := s38.trans s9
      refine ⟨_, rfl, q2, D, _, _, rfl, rfl, hq2, s39 _ _ hD3, by simp; omega, fun q3 nq3 => ?_⟩
      have s10 := same_new (o := .lst ([.ref pw] ++ as.map V.ref)) nq3
      have hq3 : (upd H9 q3 (.lst ([.ref pw] ++ as.map V.ref))) q3 = some (.lst ([.ref pw] ++ as.map V.ref)) := upd_same
      generalize upd H9 q3 (.lst ([.ref pw] ++ as.map V.ref)) = H10 at s10 hq3 ⊢
      have s310 := s39.trans s10
      obtain ⟨dx, d, k, m, rs, vs, e1, e2, e3⟩ := rw_.up s310
      refine ⟨_, rfl, pw, dx, d, "ctx", _, _, .ref cw, rfl, rfl, e1, rfl, e2, e3, by show 1 ≤ sizeLine; omega, fun q4 nq4 => ?_⟩
      have s11 := same_new (o := .lst [.ref cw]) nq4
      have hq4 : (upd H10 q4 (.lst [.ref cw])) q4 = some (.lst [.ref cw]) := upd_same
      generalize upd H10 q4 (.lst [.ref cw]) = H11 at s11 hq4 ⊢
      refine ⟨q3, q4, _, _, rfl, rfl, s11 _ _ hq3, hq4, by simp; omega, fun q5 nq5 => ?_⟩
      have s12 := same_new (o := .lst ([.ref pw] ++ as.map V.ref ++ [.ref cw])) nq5
      refine ⟨F2, q5, _, _, rfl, rfl, s12 _ _ (s11 _ _ (s10 _ _ (s9 _ _ hF2))), upd_same, ?_, _, rfl, iteF ⟨rfl, (s310.trans s11).trans s12⟩⟩
      rw [show [V.ref pw] ++ as.map V.ref ++ [V.ref cw] = (pw :: as ++ [cw]).map V.ref from by simp]
      exact eqZL_refs _
  rintro σ H4 ⟨rfl, s4⟩
  refine ⟨_, rfl, pw, "List", [.ref D, .ref cw], rfl, nw.up s4, fun v hv => ((vw v hv).up s4).1, fun H5 F nF s5 hF => ?_⟩
  have s35 := s4.trans s5
  obtain ⟨dx, d, k, m, rs, vs, e1, e2, e3⟩ := rw_.up s35
  refine ⟨_, rfl, _, rfl, pw, dx, d, "ctx", _, _, .ref cw, rfl, rfl, e1, rfl, e2, e3, by show 1 ≤ sizeLine; omega, fun q1 nq1 => ?_⟩
  have s6 := same_new (o := .lst [.ref cw]) nq1
  have hq1 : (upd H5 q1 (.lst [.ref cw])) q1 = some (.lst [.ref cw]) := upd_same
  generalize upd H5 q1 (.lst [.ref cw]) = H6 at s6 hq1 ⊢
  refine ⟨D, q1, _, _, rfl, rfl, (s35.trans s6) _ _ hD3, hq1, by simp; omega, fun q2 nq2 => ?_⟩
  have s7 := same_new (o := .lst (as.map V.ref ++ [.ref cw])) nq2
  refine ⟨F, q2, _, _, rfl, rfl, s7 _ _ (s6 _ _ hF), upd_same, ?_, q _ (sH.trans ((s35.trans s6).trans s7))⟩
  rw [kidsL_up s4 vw, kw, show as.map V.ref ++ [V.ref cw] = (as ++ [cw]).map V.ref from by simp]
  exact eqZL_refs _
end
end M4

namespace M4
open PySem PySem.Spec PyProof.Rows L2 StX TL
/-! ### the law -/
abbrev sLaw : Stmt := topS 46
theorem scLaw : FnScope ["_law_script", "_law_stream", "_law_turn", "_law_group_here", "_law_model_here", "_law_made", "_law_again", "_law_odd"] ["_law_script"] (defScope sLaw) := ⟨rfl, rfl, rfl, by decide +kernel, rfl, by decide +kernel, by decide +kernel⟩
def spLaw (K : PySem.W.Frag) : Sp := fun vs H Q _ => ∃ (a : Addr) (ns : List Int), vs = [.ref a] ∧ SqL K H a (ns.map V.int) ∧ ns.length ≤ 63 ∧ ∀ H', Q (.bl true) H'
structure LawD (P : Program) (w : World) (K : PySem.W.Frag) (mg : Str → Option Value) (base : Heap) (C : Addr) (Cs fI : Nat → Addr) (fdI : Nat → FuncData) (fD fM fBE fND fTD fCH fWK fRF fGR : Addr) (dD dM dBE dND dTD dCH dWK dRF dGR : FuncData) : Prop where
  D : FnOk P w K mg base CX0 1 fD dD ["_law_stream", "_law_many"] spDraw
  bD : Binds K dD ["_law_stream", "_law_many"] []
  kD : PySem.W.keepIn K (.ref fD) = true
  mD : mg "_law_draw" = some (.ref fD)
  M : FnOk P w K mg base CX0 35 fM dM pPr (spMdl Cs 32 40 6)
  bM : Binds K dM pPr []
  kM : PySem.W.keepIn K (.ref fM) = true
  mM : mg "_law_model" = some (.ref fM)
  BE : FnOk P w K mg base CX0 35 fBE dBE ["_law_stream", "_law_model_here"] (spBe Cs)
  bBE : Binds K dBE ["_law_stream", "_law_model_here"] []
  kBE : PySem.W.keepIn K (.ref fBE) = true
  mBE : mg "_law_bent" = some (.ref fBE)
  ND : FnOk P w K mg base CX0 160 fND dND ["_law_model_here"] (spNd K C Cs 51)
  bND : Binds K dND ["_law_model_here"] []
  kND : PySem.W.keepIn K (.ref fND) = true
  mND : mg "_law_node" = some (.ref fND)
  TD : FnOk P w K mg base CX0 209 fTD dTD ["_law_made", "_law_model_here"] (spTd C Cs)
  bTD : Binds K dTD ["_law_made", "_law_model_here"] []
  kTD : PySem.W.keepIn K (.ref fTD) = true
  mTD : mg "_law_told_right" = some (.ref fTD)
  CH : FnOk P w K mg base CX0 161 fCH dCH ["_law_stream", "_law_model_here"] (spCh C Cs)
  bCH : Binds K dCH ["_law_stream", "_law_model_here"] []
  kCH : PySem.W.keepIn K (.ref fCH) = true
  mCH : mg "_law_changed" = some (.ref fCH)
  WK : FnOk P w K mg base CX0 4 fWK dWK ["node"] (spWk K C)
  bWK : Binds K dWK ["node"] []
  kWK : PySem.W.keepIn K (.ref fWK) = true
  mWK : mg "walk" = some (.ref fWK)
  RF : FnOk P w K mg base CX0 3 fRF dRF ["_law_thing"] (spRf K C)
  bRF : Binds K dRF ["_law_thing"] []
  kRF : PySem.W.keepIn K (.ref fRF) = true
  mRF : mg "_law_is_refused" = some (.ref fRF)
  GR : FnOk P w K mg base CX0 7 fGR dGR [] spGy
  bGR : Binds K dGR [] []
  kGR : PySem.W.keepIn K (.ref fGR) = true
  mGR : mg "_law_great_right" = some (.ref fGR)
  Mk_ : Mks P w K mg base Cs fI fdI
def groupsL : List Str := ["Module", "E", "S", "Match"]
theorem groups_hm : ∀ g ∈ groupsL, (HMT.lookup g).isSome = true := by decide +kernel
section
variable {P : Program} {w : World} {K : PySem.W.Frag} {mg : Str → Option Value} {base : Heap} {C : Addr} {Cs fI : Nat → Addr} {fdI : Nat → FuncData} {fD fM fBE fND fTD fCH fWK fRF fGR : Addr} {dD dM dBE dND dTD dCH dWK dRF dGR : FuncData}
theorem ok_law {f : Addr} {fd : FuncData} (F : Fun K "law" "law" sLaw f fd) (Z : Blt mg) (W : ValI K C Cs) (Ni : NodeI K C) (L : LawD P w K mg base C Cs fI fdI fD fM fBE fND fTD fCH fWK fRF fGR dD dM dBE dND dTD dCH dWK dRF dGR) : FnOk P w K mg base CX0 210 f fd ["_law_script"] (spLaw K) := by
  refine F.ok scLaw (fun vs H Q E h => ?_) (fun cdv A outer s H vs Q E hr h => ?_)
  · obtain ⟨a, ns, rfl, _⟩ := h
    rfl
  obtain ⟨sc, ns, rfl, hsc, h63, q⟩ := h
  have hr1 := hr.mono (show 1 ≤ 209 by omega)
  have hr3 := hr.mono (show 3 ≤ 209 by omega)
  have hr4 := hr.mono (show 4 ≤ 209 by omega)
  have hrG := hr.mono (show 7 ≤ 209 by omega)
  have hrL := hr.mono (show 35 ≤ 209 by omega)
  have hrB := hr.mono (show 35 ≤ 209 by omega)
  have hrN := hr.mono (show 160 ≤ 209 by omega)
  have hrC := hr.mono (show 161 ≤ 209 by omega)
  have hrT := hr
  refine ⟨_, (C8.pss_cut (ps_set (i := 1) scLaw.nd rfl (.inl rfl) (pe_lst (pa_cons (pe_callTy call_list_of (by rfl) Z.ls (by decide +kernel) (pa_cons (pv 0) pa_nil)) (pa_cons pe_int (pa_cons pe_int (pa_cons pe_int pa_nil))))))
    (C8.pss_cut (ps_for PassesOwn.never rfl (pi_range1 (by rfl) Z.rg (pa_cons pe_int pa_nil)) (pg_name (i := 2) scLaw.nd rfl (.inl rfl)) (C8.pss_cut (ps_set (i := 3) scLaw.nd rfl (.inl rfl) (pe_ix ix_list (pe_lst (pa_cons pe_str (pa_cons pe_str (pa_cons pe_str (pa_cons pe_str pa_nil))))) (pe_call L.D hr1 rfl L.mD L.kD L.bD .nil pass0 (pa_cons (pv 1) (pa_cons pe_int pa_nil))) (fun _ _ => rfl)))
    (C8.pss_cut (ps_set (i := 4) scLaw.nd rfl (.inl rfl) (pe_call L.BE hrB rfl L.mBE L.kBE L.bBE .nil pass0 (pa_cons (pv 1) (pa_cons (pe_call L.M hrL rfl L.mM L.kM L.bM .nil pass0 (pa_cons (pv 1) (pa_cons (pv 3) (pa_cons (pe_lst (pa_cons (pe_op op_add pe_int (pe_call L.D hr1 rfl L.mD L.kD L.bD .nil pass0 (pa_cons (pv 1) (pa_cons pe_int pa_nil)))) pa_nil)) (pa_cons pe_int pa_nil))))) pa_nil))))
    (C8.pss_cut (ps_set (i := 5) scLaw.nd rfl (.inl rfl) (pe_call L.ND hrN rfl L.mND L.kND L.bND .nil pass0 (pa_cons (pv 4) pa_nil)))
    (C8.pss_cut (ps_for PassesOwn.never rfl (pi_range1 (by rfl) Z.rg (pa_cons pe_int pa_nil)) (pg_name (i := 6) scLaw.nd rfl (.inl rfl)) (C8.pss_cut (ps_if (pt_not (pt_val (pe_call L.TD hrT rfl L.mTD L.kTD L.bTD .nil pass0 (pa_cons (pv 5) (pa_cons (pv 4) pa_nil))))) (pss_one (ps_ret pe_bl)) pss_nil)
    (C8.pss_cut (ps_expr (pe_call L.CH hrC rfl L.mCH L.kCH L.bCH .nil pass0 (pa_cons (pv 1) (pa_cons (pv 4) pa_nil))))
    pss_nil)))
    (C8.pss_cut (ps_set (i := 7) scLaw.nd rfl (.inl rfl) (pe_ix ix_list (pe_lst (pa_cons pe_non (pa_cons pe_int (pa_cons pe_str (pa_cons (pe_lst (pa_cons (pv 5) pa_nil)) (pa_cons (pe_tup (pa_cons (pv 5) pa_nil)) (pa_cons (pe_call L.WK hr4 rfl L.mWK L.kWK L.bWK .nil pass0 (pa_cons (pv 5) pa_nil)) (pa_cons (pe_makeE L.Mk_.mk0 L.Mk_.i0 L.Mk_.o0 L.Mk_.k0 rfl L.Mk_.g0) (pa_cons (pe_disp (pps_cons pe_str pe_str pps_nil) (by rfl) (by rfl) (fun z => by cases z) (by decide)) (pa_cons pe_bl pa_nil)))))))))) (pe_call L.D hr1 rfl L.mD L.kD L.bD .nil pass0 (pa_cons (pv 1) (pa_cons pe_int pa_nil))) (fun _ _ => rfl)))
    (C8.pss_cut (ps_if (pt_not (pt_val (pe_call L.RF hr3 rfl L.mRF L.kRF L.bRF .nil pass0 (pa_cons (pv 7) pa_nil)))) (pss_one (ps_ret pe_bl)) pss_nil)
    pss_nil)))))))
    (pss_one (ps_ret (pe_call0 L.GR hrG (by rfl) L.mGR L.kGR L.bGR .nil pass0))))), ?_⟩
  have zL : (5000 : Nat) ≤ sizeLine := by decide
  refine ⟨fun σ H1 => ∃ a0 c0, σ = [some (.ref sc), some (.ref a0), none, none, none, none, none, none] ∧ StmAt H1 a0 c0 ⟨ns, 0, 0, 0⟩, ?_, ?_⟩
  · refine ⟨_, rfl, sc, _, rfl, .inl hsc, fun c0 nc0 => ⟨by show 4 ≤ sizeLine; decide, fun a0 na0 => ?_⟩⟩
    have ac : a0 ≠ c0 := fun z => by rw [z, upd_same] at na0; cases na0
    exact ⟨a0, c0, rfl, upd_same, by rw [upd_ne ac.symm, upd_same], ac, h63, Int.le_refl 0, Int.le_refl 0, Int.le_refl 0, by show (0 : Int) < 2147483647; decide⟩
  rintro σ H0 ⟨a0, c0, rfl, h0⟩
  refine ⟨fun σ H' => ∃ (x2 x3 x4 x5 x6 x7 : Option V), σ = [some (.ref sc), some (.ref a0), x2, x3, x4, x5, x6, x7], ?_, ?_⟩
  · refine ⟨3, rfl, by decide, by decide, for_range (lo := 0) (n := 3) (fun i σ H' => ∃ (S : Stm) (x2 x3 x4 x5 x6 x7 : Option V), σ = [some (.ref sc), some (.ref a0), x2, x3, x4, x5, x6, x7] ∧ StmAt H' a0 c0 S ∧ S.cnt ≤ (i : Int) * 70000) ?_ ?_ ?_⟩
    · exact ⟨_, none, none, none, none, none, none, rfl, h0, by show (0 : Int) ≤ (0 : Int) * 70000; omega⟩
    · rintro i σ H1 hi ⟨S, x2, x3, x4, x5, x6, x7, rfl, hS, hc⟩
      have hc6 : S.cnt ≤ 140000 := by
        have : (i : Int) ≤ 2 := by omega
        omega
      -- the group
      refine ⟨fun σ H2 => ∃ (g : Str) (S2 : Stm), σ = [some (.ref sc), some (.ref a0), some (.int (0 + (i : Nat))), some (.str g), x4, x5, x6, x7] ∧ StmAt H2 a0 c0 S2 ∧ S2.cnt ≤ S.cnt + 1 ∧ (HMT.lookup g).isSome = true, ?_, ?_⟩
      · refine ⟨by show 4 ≤ sizeLine; decide, fun l nl => ?_⟩
        have s2 := same_new (o := .lst [.str "Module", .str "E", .str "S", .str "Match"]) nl
        have hl : (upd H1 l (.lst [.str "Module", .str "E", .str "S", .str "Match"])) l = some (.lst (groupsL.map V.str)) := upd_same
        have hS2 := hS.keep s2
        have la := (ne_of_none hS.lst nl).symm
        have lc := (ne_of_none hS.cel nl).symm
        generalize upd H1 l (.lst [.str "Module", .str "E", .str "S", .str "Match"]) = H2 at hl hS2 ⊢
        refine ⟨_, rfl, a0, c0, S, 4, rfl, hS2, by omega, by decide, by decide, fun H3 S3 r h3 c3 k3 r0 r1 => ?_⟩
        have hl3 := k3 _ _ la lc hl
        obtain ⟨j, rfl⟩ : ∃ j : Nat, r = (j : Int) := ⟨r.toNat, by omega⟩
        obtain ⟨g, hg⟩ : ∃ g, groupsL[j]? = some g := ⟨_, List.getElem?_eq_getElem (by show j < 4; omega)⟩
        have hg2 : (groupsL.map V.str)[j]? = some (.str g) := by rw [List.getElem?_map, hg]; rfl
        exact ⟨l, _, _, _, rfl, rfl, SqL.of hl3, atI_nat hg2, g, S3, rfl, h3, c3, groups_hm g (List.mem_of_getElem? hg)⟩
      rintro σ H2 ⟨g, S2, rfl, hS2, hc2, hg⟩
      -- the model
      refine ⟨fun σ H3 => ∃ (m : MT) (S3 : Stm), σ = [some (.ref sc), some (.ref a0), some (.int (0 + (i : Nat))), some (.str g), some m.val, x5, x6, x7] ∧ StmAt H3 a0 c0 S3 ∧ S3.cnt ≤ S2.cnt + 56300 ∧ isMd m = true ∧ MAt Cs (fun _ => none) H3 m ∧ m.lsa.Nodup ∧ m.mds.Nodup ∧ a0 ∉ m.lsa ∧ c0 ∉ m.lsa ∧ m.mds.length ≤ 1132 ∧ m.hgt ≤ 51 ∧ m.wid ≤ 50, ?_, ?_⟩
      · refine ⟨_, rfl, _, rfl, _, rfl, _, rfl, a0, c0, S2, 36, rfl, hS2, by omega, by decide, by decide, fun H3 S3 r h3 c3 k3 r0 r1 => ?_⟩
        refine ⟨_, _, rfl, rfl, by show 1 ≤ sizeLine; decide, fun lf nlf => ?_⟩
        have d4 : Ds (upd H3 lf (.lst [.int (4 + r)])) a0 c0 lf S3 (4 + r) := ⟨h3.keep (same_new nlf), upd_same, (ne_of_none h3.lst nlf).symm, (ne_of_none h3.cel nlf).symm⟩
        generalize upd H3 lf (.lst [.int (4 + r)]) = H4 at d4 ⊢
        refine ⟨a0, c0, lf, S3, 4 + r, 6, g, rfl, d4, hg, by omega, by omega, by decide, by decide, by omega, fun H5 S5 m hmd h5 k5 at5 nd5 ls5 ln5 ht5 wd5 c5 => ?_⟩
        have out : ∀ b, was H4 b → b ∉ m.lsa := fun b wb hb => by
          obtain ⟨_, e⟩ := at5.hasL b hb
          exact (res_at e).1 wb
        have na := out a0 (was_of d4.st.lst)
        have nc := out c0 (was_of d4.st.cel)
        refine ⟨a0, c0, S5, m, rfl, h5, by omega, hmd, at5.up res_out, ls5, nd5, na, nc, by omega, ht5, wd5, fun H6 S6 m' h6 k6 hmd' ev at6 ls6 nd6 sl6 sd6 ln6 ht6 wd6 c6 => ?_⟩
        have lsN : ∀ {b : Addr} {o : HO}, H5 b = some o → b ∉ m.lsa → b ∉ m'.lsa := fun {b o} e n hb => (sl6 b hb).elim n fun z => by rw [e] at z; cases z
        exact ⟨m', S6, rfl, h6, by omega, hmd', at6, ls6, nd6, lsN h5.lst na, lsN h5.cel nc, ln6, ht6, wd6⟩
      rintro σ H3 ⟨m, S3, rfl, hS3, hc3, hmd, at3, ls3, nd3, na3, nc3, ln3, ht3, wd3⟩
      -- its node
      refine ⟨fun σ H4 => ∃ (nd : Addr → Option Addr) (T : Hp) (v : V) (A : List Addr), σ = [some (.ref sc), some (.ref a0), some (.int (0 + (i : Nat))), some (.str g), some m.val, some v, x6, x7] ∧ StmAt H4 a0 c0 S3 ∧ Same T H4 ∧ T a0 = none ∧ T c0 = none ∧ Wd C Cs nd T m v A, ?_, ?_⟩
      · refine ⟨_, rfl, fun _ => none, fun b => b ∈ m.mds ∨ b = a0 ∨ b = c0, m, rfl, at3, hmd, ht3, nd3, fun d hd => .inl hd, fun b hb => ?_, fun H4 v nd' M ip vp so fr => ?_⟩
        · rcases hb with hb | rfl | rfl
          · obtain ⟨_, e⟩ := at3.has b hb
            exact was_of e
          · exact was_of hS3.lst
          · exact was_of hS3.cel
        obtain ⟨A, ow, nA, newA⟩ := fr
        have hdk : ∀ d ∈ m.mds, ∃ kvs, H3 d = some (.dK kvs) := at3.has
        have hS4 : StmAt H4 a0 c0 S3 := ⟨M.kept hdk hS3.lst fun _ z => (by cases z), M.kept hdk hS3.cel fun _ z => (by cases z), hS3.ne, hS3.len, hS3.cur0, hS3.cnt0, hS3.mix0, hS3.mix1⟩
        have at4 := at3.mv M hdk
        have stB : ∀ b, (b = a0 ∨ b = c0) → ∃ xs, H4 b = some (.lst xs) := fun b z => z.elim (fun z => ⟨_, z ▸ hS4.lst⟩) fun z => ⟨_, z ▸ hS4.cel⟩
        have atT : MAt Cs nd' (res (fun b => b = a0 ∨ b = c0) H4) m := at4.noL stB fun b hb z => z.elim (fun z => na3 (z ▸ hb)) fun z => nc3 (z ▸ hb)
        have sR : Same (res (fun b => b ∈ m.mds ∨ b = a0 ∨ b = c0) H4) (res (fun b => b = a0 ∨ b = c0) H4) := res_up fun b o n e => ⟨fun z => n (.inr z), e⟩
        have no : ∀ b, (b = a0 ∨ b = c0) → res (fun b => b = a0 ∨ b = c0) H4 b = none := fun b z => by
          cases e : res (fun b => b = a0 ∨ b = c0) H4 b with
          | none => rfl
          | some o => exact absurd z (res_at e).1
        refine ⟨nd', res (fun b => b = a0 ∨ b = c0) H4, v, A, rfl, hS4, res_out, no a0 (.inl rfl), no c0 (.inr rfl), atT, ?_, ow.up sR fun _ _ => rfl, nA, fun z hz => ⟨fun y => ?_, fun y => ?_⟩, ls3⟩
        · refine (so.up sR fun _ _ => rfl).mapS fun s hs u e => ?_
          have hsl := sps_lsa _ _ hs
          obtain ⟨us, e2⟩ := at3.hasL s hsl
          rw [e2] at e
          cases e
          exact res_in (fun z => z.elim (fun z => na3 (z ▸ hsl)) fun z => nc3 (z ▸ hsl)) (M.kept hdk e2 fun _ z => by cases z)
        · obtain ⟨_, e⟩ := at3.has z y
          rw [newA z hz] at e; cases e
        · obtain ⟨_, e⟩ := at3.hasL z y
          rw [newA z hz] at e; cases e
      rintro σ H4 ⟨nd4, T4, v, A4, rfl, hS4, sT4, ta4, tc4, wd4⟩
      -- told, changed, three times
      refine ⟨fun σ H5 => ∃ (x6 : Option V) (nd : Addr → Option Addr) (T : Hp) (m' : MT) (A : List Addr) (S5 : Stm), σ = [some (.ref sc), some (.ref a0), some (.int (0 + (i : Nat))), some (.str g), some m.val, some v, x6, x7] ∧ StmAt H5 a0 c0 S5 ∧ S5.cnt ≤ S3.cnt + 8310 ∧ Same T H5 ∧ T a0 = none ∧ T c0 = none ∧ Wd C Cs nd T m' v A ∧ isMd m' = true ∧ m'.mds.length ≤ 2000, ?_, ?_⟩
      · refine ⟨3, rfl, by decide, by decide, for_range (lo := 0) (n := 3) (fun k σ H5 => ∃ (x6 : Option V) (nd : Addr → Option Addr) (T : Hp) (m' : MT) (A : List Addr) (S5 : Stm), σ = [some (.ref sc), some (.ref a0), some (.int (0 + (i : Nat))), some (.str g), some m.val, some v, x6, x7] ∧ StmAt H5 a0 c0 S5 ∧ S5.cnt ≤ S3.cnt + (k : Int) * 2770 ∧ Same T H5 ∧ T a0 = none ∧ T c0 = none ∧ Wd C Cs nd T m' v A ∧ isMd m' = true ∧ m'.val = m.val ∧ m'.mds.length ≤ 1132 + 46 * k ∧ m'.hgt ≤ 51 + 17 * k ∧ m'.wid ≤ 50 + k)
          ⟨x6, nd4, T4, m, A4, S3, rfl, hS4, by omega, sT4, ta4, tc4, wd4, hmd, rfl, ln3, ht3, wd3⟩ ?_ ?_⟩
        · rintro k σ H5 hk ⟨x6, nd, T, m', A, S5, rfl, hS5, c5, sT, ta, tc, wd, hmd', ev, ln, ht, wi⟩
          refine ⟨fun σ H6 => σ = [some (.ref sc), some (.ref a0), some (.int (0 + (i : Nat))), some (.str g), some m.val, some v, some (.int (0 + (k : Nat))), x7] ∧ Same H5 H6, ?_, ?_⟩
          · refine ⟨_, rfl, _, rfl, nd, m', v, by rw [ev]; rfl, hmd', wd.at_.up sT, wd.so.same wd.at_ sT, by omega, by omega, fun H6 s6 => ⟨_, rfl, iteF ⟨rfl, s6⟩⟩⟩
          rintro σ H6 ⟨rfl, s6⟩
          have c5' : S5.cnt ≤ 300000 := by
            have : (k : Int) ≤ 2 := by omega
            omega
          refine ⟨fun σ H7 => ∃ (nd : Addr → Option Addr) (T : Hp) (m' : MT) (A : List Addr) (S5 : Stm), σ = [some (.ref sc), some (.ref a0), some (.int (0 + (i : Nat))), some (.str g), some m.val, some v, some (.int (0 + (k : Nat))), x7] ∧ StmAt H7 a0 c0 S5 ∧ S5.cnt ≤ S3.cnt + ((k + 1 : Nat) : Int) * 2770 ∧ Same T H7 ∧ T a0 = none ∧ T c0 = none ∧ Wd C Cs nd T m' v A ∧ isMd m' = true ∧ m'.val = m.val ∧ m'.mds.length ≤ 1132 + 46 * (k + 1) ∧ m'.hgt ≤ 51 + 17 * (k + 1) ∧ m'.wid ≤ 50 + (k + 1), ?_, ?_⟩
          · refine ⟨_, rfl, _, rfl, a0, c0, S5, nd, T, m', v, A, by rw [ev]; rfl, hS5.keep s6, by omega, sT.trans s6, ta, tc, wd, hmd', by omega, by omega, by omega, fun H7 S7 nd7 T7 m7 A7 h7 sT7 ta7 tc7 wd7 hmd7 ev7 ht7 ln7 wi7 c7 => ?_⟩
            exact ⟨nd7, T7, m7, A7, S7, rfl, h7, by omega, sT7, ta7, tc7, wd7, hmd7, ev7.trans ev, by omega, by omega, by omega⟩
          rintro σ H7 ⟨nd7, T7, m7, A7, S7, rfl, r⟩
          exact ⟨_, nd7, T7, m7, A7, S7, rfl, r⟩
        · rintro σ H5 ⟨x6, nd, T, m', A, S5, rfl, hS5, c5, sT, ta, tc, wd, hmd', ev, ln, ht, wi⟩
          exact ⟨x6, nd, T, m', A, S5, rfl, hS5, by omega, sT, ta, tc, wd, hmd', by omega⟩
      rintro σ H5 ⟨x6', nd5, T5, m5, A5, S5, rfl, hS5, c5, sT5, ta5, tc5, wd5, hmd5, ln5⟩
      have at5 := wd5.at_.up sT5
      have so5 := wd5.so.same wd5.at_ sT5
      obtain ⟨p, nl, rfl, tr, fl⟩ := so5.walk W Ni at5 hmd5
      obtain ⟨dx5, fs5, hp5⟩ := tr.ins
      -- something that is no node
      refine ⟨fun σ H6 => ∃ (u : V) (t : Value) (S6 : Stm), σ = [some (.ref sc), some (.ref a0), some (.int (0 + (i : Nat))), some (.str g), some m.val, some (.ref p), x6', some u] ∧ StmAt H6 a0 c0 S6 ∧ S6.cnt ≤ S5.cnt + 1 ∧ TyX K H6 u t ∧ PySem.W.kitOne K t (.ref C) = some false, ?_, ?_⟩
      · obtain ⟨l5, hms5, hll5⟩ := msN_ex m5.hgt m5 hmd5 (Nat.le_refl _)
        have enl := congrArg List.length (fl _ _ hms5)
        rw [List.length_map, List.length_map] at enl
        refine ⟨_, rfl, by show 1 ≤ sizeLine; omega, fun l1 n1 => ?_⟩
        have s1 := same_new (o := .lst [.ref p]) n1
        have u1 : (upd H5 l1 (.lst [.ref p])) l1 = some (.lst [.ref p]) := upd_same
        generalize upd H5 l1 (.lst [.ref p]) = G1 at s1 u1 ⊢
        refine ⟨_, rfl, by show 1 ≤ sizeLine; omega, fun t2 n2 => ?_⟩
        have s2 := same_new (o := .tup [.ref p]) n2
        have u2 : (upd G1 t2 (.tup [.ref p])) t2 = some (.tup [.ref p]) := upd_same
        generalize upd G1 t2 (.tup [.ref p]) = G2 at s2 u2 ⊢
        refine ⟨_, rfl, p, nl, rfl, tr.up (s1.trans s2), by omega, fun G3 F3 nF3 s3 u3 => ?_⟩
        refine fun x4 dx4 nx4 ndx4 ne4 => ?_
        have s4 : Same G3 (upd (upd G3 dx4 (.own x4)) x4 (.ins (Cs 0) dx4 [])) := fun b o e => by
          rw [upd_ne (ne_of_none e nx4), upd_ne (ne_of_none e ndx4)]
          exact e
        have u4 : (upd (upd G3 dx4 (.own x4)) x4 (.ins (Cs 0) dx4 [])) x4 = some (.ins (Cs 0) dx4 []) := upd_same
        generalize upd (upd G3 dx4 (.own x4)) x4 (.ins (Cs 0) dx4 []) = G4 at s4 u4 ⊢
        refine fun d5 nd5' => ⟨upd_same, [(.inr "kind", .str "Name")], rfl, by show 1 ≤ 15; decide, ?_⟩
        rw [show mergeK [] [((Sum.inr "kind" : Key), V.str "Name")] = [(.inr "kind", .str "Name")] from rfl]
        have s5 : Same G4 (upd (upd G4 d5 (.dK [])) d5 (.dK [(.inr "kind", .str "Name")])) := fun b o e => by
          rw [upd_ne (ne_of_none e nd5'), upd_ne (ne_of_none e nd5')]
          exact e
        have u5 : (upd (upd G4 d5 (.dK [])) d5 (.dK [(.inr "kind", .str "Name")])) d5 = some (.dK [(.inr "kind", .str "Name")]) := upd_same
        generalize upd (upd G4 d5 (.dK [])) d5 (.dK [(.inr "kind", .str "Name")]) = G5 at s5 u5 ⊢
        refine ⟨by show 9 ≤ sizeLine; omega, fun L6 n6 => ?_⟩
        have s6 := same_new (o := .lst [.non, .int 0, .str "Name", .ref l1, .ref t2, .ref F3, .ref x4, .ref d5, .bl true]) n6
        have u6 : (upd G5 L6 (.lst [.non, .int 0, .str "Name", .ref l1, .ref t2, .ref F3, .ref x4, .ref d5, .bl true])) L6 = some (.lst [.non, .int 0, .str "Name", .ref l1, .ref t2, .ref F3, .ref x4, .ref d5, .bl true]) := upd_same
        generalize upd G5 L6 (.lst [.non, .int 0, .str "Name", .ref l1, .ref t2, .ref F3, .ref x4, .ref d5, .bl true]) = G6 at s6 u6 ⊢
        have z1 := s1
        have z2 := z1.trans s2
        have z3 := z2.trans s3
        have z4 := z3.trans s4
        have z5 := z4.trans s5
        have z6 := z5.trans s6
        have hS6 := hS5.keep z6
        refine ⟨_, rfl, a0, c0, S5, 9, rfl, hS6, by omega, by decide, by decide, fun H6 S6 r h6 c6 k6 r0 r1 => ?_⟩
        have kp : ∀ {b : Addr} {o : HO}, H5 b = none → G6 b = some o → H6 b = some o := fun {b o} n e => k6 b o (fun z => by rw [z, hS5.lst] at n; cases n) (fun z => by rw [z, hS5.cel] at n; cases n) e
        have h1 := kp n1 (s6 _ _ (s5 _ _ (s4 _ _ (s3 _ _ (s2 _ _ u1)))))
        have h2 := kp (z1.free n2) (s6 _ _ (s5 _ _ (s4 _ _ (s3 _ _ u2))))
        have h3 := kp (z2.free nF3) (s6 _ _ (s5 _ _ (s4 _ _ u3)))
        have h4 := kp (z3.free nx4) (s6 _ _ (s5 _ _ u4))
        have h5 := kp (z4.free nd5') (s6 _ _ u5)
        have hL := kp (z5.free n6) u6
        have cst : ∀ {u : V}, Cst Cs H6 u → ∃ (u' : V) (t : Value) (S6' : Stm), ([some (.ref sc), some (.ref a0), some (.int (0 + (i : Nat))), some (.str g), some m.val, some (.ref p), x6', some u] : L2.St) = [some (.ref sc), some (.ref a0), some (.int (0 + (i : Nat))), some (.str g), some m.val, some (.ref p), x6', some u'] ∧ StmAt H6 a0 c0 S6' ∧ S6'.cnt ≤ S5.cnt + 1 ∧ TyX K H6 u' t ∧ PySem.W.kitOne K t (.ref C) = some false := fun {u} c => by
          obtain ⟨t, w1, w2, _⟩ := c.ty W
          exact ⟨u, t, S6, rfl, h6, c6, w1, w2⟩
        obtain ⟨j, rfl⟩ : ∃ j : Nat, r = (j : Int) := ⟨r.toNat, by omega⟩
        rcases (by omega : j = 0 ∨ j = 1 ∨ j = 2 ∨ j = 3 ∨ j = 4 ∨ j = 5 ∨ j = 6 ∨ j = 7 ∨ j = 8) with rfl | rfl | rfl | rfl | rfl | rfl | rfl | rfl | rfl
        · exact ⟨L6, _, _, _, rfl, rfl, SqL.of hL, atI_nat (j := 0) rfl, cst .non⟩
        · exact ⟨L6, _, _, _, rfl, rfl, SqL.of hL, atI_nat (j := 1) rfl, cst (.int _)⟩
        · exact ⟨L6, _, _, _, rfl, rfl, SqL.of hL, atI_nat (j := 2) rfl, cst (.str _)⟩
        · exact ⟨L6, _, _, _, rfl, rfl, SqL.of hL, atI_nat (j := 3) rfl, _, .type "list", S6, rfl, h6, c6, .base (.lst h1), W.nt _ (by simp)⟩
        · exact ⟨L6, _, _, _, rfl, rfl, SqL.of hL, atI_nat (j := 4) rfl, _, .type "tuple", S6, rfl, h6, c6, .base (.tup h2), W.nt _ (by simp)⟩
        · exact ⟨L6, _, _, _, rfl, rfl, SqL.of hL, atI_nat (j := 5) rfl, _, .type "list", S6, rfl, h6, c6, .base (.lst h3), W.nt _ (by simp)⟩
        · exact ⟨L6, _, _, _, rfl, rfl, SqL.of hL, atI_nat (j := 6) rfl, cst (.obj (j := 0) (by decide) h4 .dots)⟩
        · exact ⟨L6, _, _, _, rfl, rfl, SqL.of hL, atI_nat (j := 7) rfl, _, .type "dict", S6, rfl, h6, c6, .base (.dK h5), W.nt _ (by simp)⟩
        · exact ⟨L6, _, _, _, rfl, rfl, SqL.of hL, atI_nat (j := 8) rfl, cst (.bl _)⟩
      rintro σ H6 ⟨u, t, S6, rfl, hS6, c6, hty, hk⟩
      refine ⟨fun σ H7 => σ = [some (.ref sc), some (.ref a0), some (.int (0 + (i : Nat))), some (.str g), some m.val, some (.ref p), x6', some u] ∧ Same H6 H7, ?_, ?_⟩
      · exact ⟨_, rfl, u, t, rfl, hty, hk, fun H7 s7 => ⟨_, rfl, iteF ⟨rfl, s7⟩⟩⟩
      rintro σ H7 ⟨rfl, s7⟩
      exact ⟨S6, _, _, _, _, _, _, rfl, hS6.keep s7, by
        have : ((i + 1 : Nat) : Int) * 70000 = (i : Int) * 70000 + 70000 := by push_cast; omega
        omega⟩
    · rintro σ H1 ⟨S, x2, x3, x4, x5, x6, x7, rfl, _⟩
      exact ⟨x2, x3, x4, x5, x6, x7, rfl⟩
  rintro σ H1 ⟨x2, x3, x4, x5, x6, x7, rfl⟩
  exact ⟨rfl, fun H' _ => q H'⟩
end
theorem room_law : Room 210 callerA := ⟨rfl, by decide, by decide⟩
end M4

namespace M4
open PySem PySem.Spec PyProof.Rows L2 TL
def faL0 : List He.Fa := [.mkr "Node", .cls "Node", .noat "Node" "kind", .noat "Node" "lineno", .noat "Node" "col_offset", .noat "Node" "end_lineno", .noat "Node" "end_col_offset", .noat "Node" "_fields", .meth "Node" "__getitem__", .meth "Node" "__setitem__", .mkr "Float", .mkr "Imaginary", .mkr "Octets", .cls "Dots", .cls "Float", .cls "Imaginary", .cls "Octets", .noat "Float" "mantissa", .noat "Float" "exponent", .noat "Imaginary" "number", .noat "Octets" "numbers", .meth "Dots" "__eq__", .meth "Float" "__eq__", .meth "Imaginary" "__eq__", .meth "Octets" "__eq__", .glo "_default", .glo "fields_of", .glo "check_node", .glo "nodes_of", .glo "walk", .glo "iter_child_nodes", .glo "iter_fields", .glo "_law_draw", .glo "_law_pick", .glo "_law_table", .glo "_law_pattern_table", .glo "_law_fields", .glo "_law_group", .glo "_law_constants", .glo "_law_spot"]
def faL1 : List He.Fa := [.glo "_law_part", .glo "_law_model", .glo "_law_made_part", .glo "_law_node", .glo "_law_below", .glo "_law_models", .glo "_law_is_part", .glo "_law_is_so", .glo "_law_odd_part", .glo "_law_bent", .glo "_law_is_refused", .glo "_law_told_right", .glo "_law_changed", .glo "_law_great_right", .glo "law", .glo "Node", .glo "FIELDS", .glo "ATTRIBUTES", .glo "LIST_MARKS", .glo "TreeError", .glo "BadNode", .glo "Dots", .glo "Float", .glo "Imaginary", .glo "Octets", .free "isinstance", .free "str", .free "tuple", .free "list", .free "len", .free "zip", .free "int", .free "bool", .free "range", .free "sum", .free "repr", .free "dict", .free "all"]
def faL : List He.Fa := faL0 ++ faL1
def dd (x : Str) (st : Stmt) : He.DefD := ⟨(x, none), x, x, defArgs st, defBody st, defScope st, [], []⟩
def dm (c m q : Str) (st : Stmt) : He.DefD := ⟨(c, some m), m, q, defArgs st, defBody st, defScope st, [], []⟩
def fnL : List He.DefD := [dd "_default" sDef, dd "fields_of" sFO, dd "check_node" sChk, dd "nodes_of" sNO, dd "walk" sWk, dd "iter_child_nodes" sIC, dd "iter_fields" sIF, dd "_law_draw" sDraw, dd "_law_pick" sPick, dd "_law_table" sTb, dd "_law_pattern_table" sPt, dd "_law_fields" sFd, dd "_law_group" sGr, dd "_law_constants" sCn, dd "_law_spot" sSp, dd "_law_part" sPr, dd "_law_model" sMd, dd "_law_made_part" sMp, dd "_law_node" sNd, dd "_law_below" sBl, dd "_law_models" sMo, dd "_law_is_part" sIp, dd "_law_is_so" sIs, dd "_law_odd_part" sOd, dd "_law_bent" sBe, dd "_law_is_refused" sRf, dd "_law_told_right" sTd, dd "_law_changed" sCh, dd "_law_great_right" sGy, dd "law" sLaw, dm "Node" "__init__" "Node.__init__" sNI, dm "Node" "__getitem__" "Node.__getitem__" sNG, dm "Node" "__setitem__" "Node.__setitem__" sNS, dm "Float" "__init__" "Float.__init__" sIn1, dm "Imaginary" "__init__" "Imaginary.__init__" sIn2, dm "Octets" "__init__" "Octets.__init__" sIn3, dm "Dots" "__eq__" "Dots.__eq__" sE0, dm "Float" "__eq__" "Float.__eq__" sE1, dm "Imaginary" "__eq__" "Imaginary.__eq__" sE2, dm "Octets" "__eq__" "Octets.__eq__" sE3]
theorem fun_of {K : PySem.W.Frag} {x qual : Str} {st : Stmt} {f : Addr} {fd : FuncData} (F : FunD K x qual (defArgs st) (defBody st) (defScope st) [] [] f fd) : Fun K x qual st f fd := by
  obtain ⟨oc, od, dV, kV, doc, pm, an, cdv, ct, osl, rfl, lk, hcd, hd, _⟩ := F.ex
  rcases hd with ⟨_, rfl⟩ | ⟨e, _⟩
  · exact ⟨⟨oc, od, kV, doc, pm, an, cdv, ct, osl, rfl, lk, hcd⟩, F.kp⟩
  · exact absurd rfl e
def kysF0 : List Str := ["Module", "Expression", "FunctionDef", "AsyncFunctionDef", "ClassDef", "Return", "Delete", "Assign", "AugAssign", "AnnAssign", "For", "AsyncFor", "While", "If", "With", "AsyncWith", "Match", "Raise", "Assert", "Try"]
def kysF1 : List Str := ["Import", "ImportFrom", "Global", "Nonlocal", "Expr", "Pass", "Break", "Continue", "BoolOp", "NamedExpr", "BinOp", "UnaryOp", "Lambda", "IfExp", "Dict", "Set", "ListComp", "SetComp", "GeneratorExp", "DictComp"]
def kysF2 : List Str := ["Await", "Yield", "YieldFrom", "Compare", "Call", "FormattedValue", "JoinedStr", "Constant", "Attribute", "Subscript", "Starred", "Name", "List", "Tuple", "Slice", "comprehension", "ExceptHandler", "arguments", "arg", "keyword"]
def kysF3 : List Str := ["alias", "withitem", "match_case", "MatchValue", "MatchSingleton", "MatchSequence", "MatchOr", "MatchMapping", "MatchClass", "MatchStar", "MatchAs", "And", "Or", "Invert", "Not", "UAdd", "USub", "Load", "Store", "Del"]
def kysF4 : List Str := ["Add", "Sub", "Mult", "MatMult", "Div", "FloorDiv", "Pow", "LShift", "RShift", "BitOr", "BitXor", "BitAnd", "Eq", "NotEq", "Lt", "LtE", "Gt", "GtE", "Is", "IsNot"]
def kysF5 : List Str := ["In", "NotIn"]
def kysF : List Str := kysF0 ++ kysF1 ++ kysF2 ++ kysF3 ++ kysF4 ++ kysF5
theorem fnOk_ex {α : Type} {P : Program} {w : World} {K : PySem.W.Frag} {mg : Str → Option Value} {base : Heap} {CX : CXT} {k : Nat} {f : Addr} {fd : FuncData} {ps : List Str} {sp : α → Sp} (h : ∀ x, FnOk P w K mg base CX k f fd ps (sp x)) : FnOk P w K mg base CX k f fd ps (fun vs H Q E => ∃ x, sp x vs H Q E) :=
  ⟨fun vs H Q E ⟨x, q⟩ => (h x).len vs H Q E q, fun A outer s H args us vs Q E hr e0 hb r ⟨x, q⟩ => (h x).run A outer s H args us vs Q E hr e0 hb r q⟩
def tsL : List He.Tab := [((fun K => He.ga K "FIELDS"), kysF)]
def getB (K : PySem.W.Frag) : Bool := He.eqO (PySem.W.specialIn K (.builtin "object.__class__") "__get__") (some (some (.builtin "getset_descriptor.__get__"))) && decide (PySem.W.takesIn K (.builtin "object.__class__") = some true)
def clsB (K : PySem.W.Frag) (C : Addr) : Bool := He.eqO (PySem.W.findIn K (.ref C) "__class__") (some (some (.builtin "object.__class__"))) && decide (PySem.W.mroIn K C (.type "object") = some true)
def kiB (K : PySem.W.Frag) (t u : Value) (b : Bool) : Bool := decide (PySem.W.kitOne K t u = some b)
def excB (K : PySem.W.Frag) (D : Addr) : Bool := He.eqO (PySem.W.findIn K (.ref D) "__getattribute__") (some (some (.builtin "BaseException.__getattribute__"))) && (He.eqO (PySem.W.findIn K (.ref D) "__getattr__") (some none) &&
  (decide (PySem.W.subIn K (.ref D) (.type "BaseException") = some true) && (PySem.W.hasDictIn K D && clsB K D)))
theorem excB_ok {K : PySem.W.Frag} {D : Addr} (g : getB K = true) (h : excB K D = true) : ExcC K D := by
  unfold excB clsB at h
  unfold getB at g
  simp only [Bool.and_eq_true] at h g
  exact ⟨He.eqO_ok h.1, He.eqO_ok h.2.1, of_decide_eq_true h.2.2.1, h.2.2.2.1, He.eqO_ok h.2.2.2.2.1, He.eqO_ok g.1, of_decide_eq_true g.2, of_decide_eq_true h.2.2.2.2.2⟩
theorem clsB_ok {K : PySem.W.Frag} {C : Addr} (h : clsB K C = true) : PySem.W.findIn K (.ref C) "__class__" = some (some (.builtin "object.__class__")) ∧ PySem.W.mroIn K C (.type "object") = some true := by
  unfold clsB at h
  rw [Bool.and_eq_true] at h
  exact ⟨He.eqO_ok h.1, of_decide_eq_true h.2⟩
/-- the four classes of constants -/
def csK (K : PySem.W.Frag) : Nat → Addr
  | 0 => He.ga K "Dots"
  | 1 => He.ga K "Float"
  | 2 => He.ga K "Imaginary"
  | _ => He.ga K "Octets"
def fiK (K : PySem.W.Frag) (j : Nat) : Addr := He.ma K (csK K j) "__init__"
def fdK (d1 d2 d3 : FuncData) : Nat → FuncData
  | 1 => d1
  | 2 => d2
  | _ => d3
def tyL : List Value := [.type "NoneType", .type "bool", .type "int", .type "str", .type "list", .type "tuple", .type "dict"]
/-- a class of constants: no sequence, no node -/
def valB (K : PySem.W.Frag) (D C : Addr) : Bool := clsB K D && ((seqTs.all fun T => kiB K (.ref D) T false) && (kiB K (.ref D) (.ref C) false && decide (D ≠ C)))
theorem valB_ok {K : PySem.W.Frag} {D C : Addr} (h : valB K D C = true) : (PySem.W.findIn K (.ref D) "__class__" = some (some (.builtin "object.__class__")) ∧ PySem.W.mroIn K D (.type "object") = some true) ∧ (∀ T ∈ seqTs, PySem.W.kitOne K (.ref D) T = some false) ∧ PySem.W.kitOne K (.ref D) (.ref C) = some false ∧ D ≠ C := by
  unfold valB at h
  simp only [Bool.and_eq_true] at h
  exact ⟨clsB_ok h.1, fun T hT => of_decide_eq_true (List.all_eq_true.mp h.2.1 T hT), of_decide_eq_true h.2.2.1, of_decide_eq_true h.2.2.2⟩
def eqB (K : PySem.W.Frag) (D : Addr) : Bool := kiB K (.ref D) (.ref D) true && (kiB K (.ref D) (.type "bool") false && kiB K (.ref D) (.type "str") false)
theorem eqB_ok {K : PySem.W.Frag} {D : Addr} (h : eqB K D = true) : PySem.W.kitOne K (.ref D) (.ref D) = some true ∧ PySem.W.kitOne K (.ref D) (.type "bool") = some false ∧ PySem.W.kitOne K (.ref D) (.type "str") = some false := by
  unfold eqB at h
  simp only [Bool.and_eq_true] at h
  exact ⟨of_decide_eq_true h.1, of_decide_eq_true h.2.1, of_decide_eq_true h.2.2⟩
def fE (K : PySem.W.Frag) (j : Nat) : Addr := He.ma K (csK K j) "__eq__"
def dE (d0 d1 d2 d3 : FuncData) : Nat → FuncData
  | 0 => d0
  | 1 => d1
  | 2 => d2
  | _ => d3

def exL (K : PySem.W.Frag) : Bool := fldIs K (He.ga K "FIELDS") && (He.tupB K "LIST_MARKS" [.str "*", .str "+", .str "?*"] && (He.tupB K "ATTRIBUTES" [.str "lineno", .str "col_offset", .str "end_lineno", .str "end_col_offset"] && (getB K && (clsB K (He.ga K "Node") && (kiB K (.ref (He.ga K "Node")) (.ref (He.ga K "Node")) true && (kiB K (.ref (He.ga K "Node")) (.type "list") false && (PySem.W.noSeq K (He.ga K "Node") && (PySem.W.fnIn K (He.ma K (He.ga K "Node") "__getitem__") && (PySem.W.excIn K (He.ga K "BadNode") vErr "ValueError.__new__" && (PySem.W.keepIn K (.ref (He.ga K "BadNode")) && (decide (PySem.W.subIn K (.ref (He.ga K "BadNode")) (.type "BaseException") = some true) && (decide (PySem.W.typeIn K (.ref (He.ga K "BadNode")) = some (.type "type")) && (valB K (csK K 0) (He.ga K "Node") && (valB K (csK K 1) (He.ga K "Node") && (valB K (csK K 2) (He.ga K "Node") && (valB K (csK K 3) (He.ga K "Node") && ((tyL.all fun t => kiB K t (.ref (He.ga K "Node")) false) && (PySem.W.makesIn K (csK K 0) && (He.eqO (PySem.W.findIn K (.ref (csK K 0)) "__init__") (some (some (.builtin "object.__init__"))) && (PySem.W.keepIn K (.ref (csK K 0)) && (eqB K (csK K 0) && (eqB K (csK K 1) && (eqB K (csK K 2) && (eqB K (csK K 3) && (excB K (He.ga K "BadNode") && (decide (PySem.W.exmOne K (.ref (He.ga K "BadNode")) (.ref (He.ga K "TreeError")) = some true) && (kiB K (.ref (He.ga K "BadNode")) (.ref (He.ga K "BadNode")) true)))))))))))))))))))))))))))
theorem facts {P : Program} {w : World} {K : PySem.W.Frag} {h : Heap} {mg : Str → Option Value} {f : Addr} (X : K.In h) (G : h.Ns mainGlobals mg) (hfa : mg ("law" : Str) = some (.ref f)) (c : He.SaysT faL fnL tsL w K) (e : exL K = true) :
    ∃ fd : FuncData, (∀ (s : Shared) (u : Value), BindsTo s fd ⟨[u], []⟩ [("_law_script", u)]) ∧ ∀ base : Heap, K.In base → base.Ns mainGlobals mg → FnOk P w K mg base CX0 210 f fd ["_law_script"] (spLaw K) := by
  have c1 := c.d
  obtain ⟨d0, D0⟩ := c1.def_ 0 rfl
  have F0 := fun_of (st := sDef) D0
  obtain ⟨d1, D1⟩ := c1.def_ 1 rfl
  have F1 := fun_of (st := sFO) D1
  obtain ⟨d2, D2⟩ := c1.def_ 2 rfl
  have F2 := fun_of (st := sChk) D2
  obtain ⟨d3, D3⟩ := c1.def_ 3 rfl
  have F3 := fun_of (st := sNO) D3
  obtain ⟨d4, D4⟩ := c1.def_ 4 rfl
  have F4 := fun_of (st := sWk) D4
  obtain ⟨d5, D5⟩ := c1.def_ 5 rfl
  have F5 := fun_of (st := sIC) D5
  obtain ⟨d6, D6⟩ := c1.def_ 6 rfl
  have F6 := fun_of (st := sIF) D6
  obtain ⟨d7, D7⟩ := c1.def_ 7 rfl
  have F7 := fun_of (st := sDraw) D7
  obtain ⟨d8, D8⟩ := c1.def_ 8 rfl
  have F8 := fun_of (st := sPick) D8
  obtain ⟨d9, D9⟩ := c1.def_ 9 rfl
  have F9 := fun_of (st := sTb) D9
  obtain ⟨d10, D10⟩ := c1.def_ 10 rfl
  have F10 := fun_of (st := sPt) D10
  obtain ⟨d11, D11⟩ := c1.def_ 11 rfl
  have F11 := fun_of (st := sFd) D11
  obtain ⟨d12, D12⟩ := c1.def_ 12 rfl
  have F12 := fun_of (st := sGr) D12
  obtain ⟨d13, D13⟩ := c1.def_ 13 rfl
  have F13 := fun_of (st := sCn) D13
  obtain ⟨d14, D14⟩ := c1.def_ 14 rfl
  have F14 := fun_of (st := sSp) D14
  obtain ⟨d15, D15⟩ := c1.def_ 15 rfl
  have F15 := fun_of (st := sPr) D15
  obtain ⟨d16, D16⟩ := c1.def_ 16 rfl
  have F16 := fun_of (st := sMd) D16
  obtain ⟨d17, D17⟩ := c1.def_ 17 rfl
  have F17 := fun_of (st := sMp) D17
  obtain ⟨d18, D18⟩ := c1.def_ 18 rfl
  have F18 := fun_of (st := sNd) D18
  obtain ⟨d19, D19⟩ := c1.def_ 19 rfl
  have F19 := fun_of (st := sBl) D19
  obtain ⟨d20, D20⟩ := c1.def_ 20 rfl
  have F20 := fun_of (st := sMo) D20
  obtain ⟨d21, D21⟩ := c1.def_ 21 rfl
  have F21 := fun_of (st := sIp) D21
  obtain ⟨d22, D22⟩ := c1.def_ 22 rfl
  have F22 := fun_of (st := sIs) D22
  obtain ⟨d23, D23⟩ := c1.def_ 23 rfl
  have F23 := fun_of (st := sOd) D23
  obtain ⟨d24, D24⟩ := c1.def_ 24 rfl
  have F24 := fun_of (st := sBe) D24
  obtain ⟨d25, D25⟩ := c1.def_ 25 rfl
  have F25 := fun_of (st := sRf) D25
  obtain ⟨d26, D26⟩ := c1.def_ 26 rfl
  have F26 := fun_of (st := sTd) D26
  obtain ⟨d27, D27⟩ := c1.def_ 27 rfl
  have F27 := fun_of (st := sCh) D27
  obtain ⟨d28, D28⟩ := c1.def_ 28 rfl
  have F28 := fun_of (st := sGy) D28
  obtain ⟨d29, D29⟩ := c1.def_ 29 rfl
  have F29 := fun_of (st := sLaw) D29
  obtain ⟨d30, D30⟩ := c1.def_ 30 rfl
  have F30 := fun_of (st := sNI) D30
  obtain ⟨d31, D31⟩ := c1.def_ 31 rfl
  have F31 := fun_of (st := sNG) D31
  obtain ⟨d32, D32⟩ := c1.def_ 32 rfl
  have F32 := fun_of (st := sNS) D32
  obtain ⟨d33, D33⟩ := c1.def_ 33 rfl
  have F33 := fun_of (st := sIn1) D33
  obtain ⟨d34, D34⟩ := c1.def_ 34 rfl
  have F34 := fun_of (st := sIn2) D34
  obtain ⟨d35, D35⟩ := c1.def_ 35 rfl
  have F35 := fun_of (st := sIn3) D35
  obtain ⟨d36, D36⟩ := c1.def_ 36 rfl
  have F36 := fun_of (st := sE0) D36
  obtain ⟨d37, D37⟩ := c1.def_ 37 rfl
  have F37 := fun_of (st := sE1) D37
  obtain ⟨d38, D38⟩ := c1.def_ 38 rfl
  have F38 := fun_of (st := sE2) D38
  obtain ⟨d39, D39⟩ := c1.def_ 39 rfl
  have F39 := fun_of (st := sE3) D39
  have b0 : Binds K d0 ["name", "mark"] [] := F0.binds fun _ _ _ _ _ _ us hl => match us, hl with | [_, _], _ => rfl
  have b1 : Binds K d1 ["kind"] [] := F1.binds fun _ _ _ _ _ _ us hl => match us, hl with | [_], _ => rfl
  have b2 : Binds K d2 ["thing"] [] := F2.binds fun _ _ _ _ _ _ us hl => match us, hl with | [_], _ => rfl
  have b3 : Binds K d3 ["value"] [] := F3.binds fun _ _ _ _ _ _ us hl => match us, hl with | [_], _ => rfl
  have b4 : Binds K d4 ["node"] [] := F4.binds fun _ _ _ _ _ _ us hl => match us, hl with | [_], _ => rfl
  have b5 : Binds K d5 ["node"] [] := F5.binds fun _ _ _ _ _ _ us hl => match us, hl with | [_], _ => rfl
  have b6 : Binds K d6 ["node"] [] := F6.binds fun _ _ _ _ _ _ us hl => match us, hl with | [_], _ => rfl
  have b7 : Binds K d7 ["_law_stream", "_law_many"] [] := F7.binds fun _ _ _ _ _ _ us hl => match us, hl with | [_, _], _ => rfl
  have b8 : Binds K d8 ["_law_stream", "_law_some"] [] := F8.binds fun _ _ _ _ _ _ us hl => match us, hl with | [_, _], _ => rfl
  have b9 : Binds K d9 [] [] := F9.binds fun _ _ _ _ _ _ us hl => match us, hl with | [], _ => rfl
  have b10 : Binds K d10 [] [] := F10.binds fun _ _ _ _ _ _ us hl => match us, hl with | [], _ => rfl
  have b11 : Binds K d11 ["_law_kind"] [] := F11.binds fun _ _ _ _ _ _ us hl => match us, hl with | [_], _ => rfl
  have b12 : Binds K d12 ["_law_held"] [] := F12.binds fun _ _ _ _ _ _ us hl => match us, hl with | [_], _ => rfl
  have b13 : Binds K d13 [] [] := F13.binds fun _ _ _ _ _ _ us hl => match us, hl with | [], _ => rfl
  have b14 : Binds K d14 ["_law_stream"] [] := F14.binds fun _ _ _ _ _ _ us hl => match us, hl with | [_], _ => rfl
  have b15 : Binds K d15 ["_law_stream", "_law_held", "_law_left", "_law_deep"] [] := F15.binds fun _ _ _ _ _ _ us hl => match us, hl with | [_, _, _, _], _ => rfl
  have b16 : Binds K d16 ["_law_stream", "_law_held", "_law_left", "_law_deep"] [] := F16.binds fun _ _ _ _ _ _ us hl => match us, hl with | [_, _, _, _], _ => rfl
  have b17 : Binds K d17 ["_law_part_here"] [] := F17.binds fun _ _ _ _ _ _ us hl => match us, hl with | [_], _ => rfl
  have b18 : Binds K d18 ["_law_model_here"] [] := F18.binds fun _ _ _ _ _ _ us hl => match us, hl with | [_], _ => rfl
  have b19 : Binds K d19 ["_law_model_here"] [] := F19.binds fun _ _ _ _ _ _ us hl => match us, hl with | [_], _ => rfl
  have b20 : Binds K d20 ["_law_model_here"] [] := F20.binds fun _ _ _ _ _ _ us hl => match us, hl with | [_], _ => rfl
  have b21 : Binds K d21 ["_law_found", "_law_part_here"] [] := F21.binds fun _ _ _ _ _ _ us hl => match us, hl with | [_, _], _ => rfl
  have b22 : Binds K d22 ["_law_node_here", "_law_model_here"] [] := F22.binds fun _ _ _ _ _ _ us hl => match us, hl with | [_, _], _ => rfl
  have b23 : Binds K d23 ["_law_stream"] [] := F23.binds fun _ _ _ _ _ _ us hl => match us, hl with | [_], _ => rfl
  have b24 : Binds K d24 ["_law_stream", "_law_model_here"] [] := F24.binds fun _ _ _ _ _ _ us hl => match us, hl with | [_, _], _ => rfl
  have b25 : Binds K d25 ["_law_thing"] [] := F25.binds fun _ _ _ _ _ _ us hl => match us, hl with | [_], _ => rfl
  have b26 : Binds K d26 ["_law_made", "_law_model_here"] [] := F26.binds fun _ _ _ _ _ _ us hl => match us, hl with | [_, _], _ => rfl
  have b27 : Binds K d27 ["_law_stream", "_law_model_here"] [] := F27.binds fun _ _ _ _ _ _ us hl => match us, hl with | [_, _], _ => rfl
  have b28 : Binds K d28 [] [] := F28.binds fun _ _ _ _ _ _ us hl => match us, hl with | [], _ => rfl
  have b29 : Binds K d29 ["_law_script"] [] := F29.binds fun _ _ _ _ _ _ us hl => match us, hl with | [_], _ => rfl
  have b31 : Binds K d31 ["self", "at"] [] := F31.binds fun _ _ _ _ _ _ us hl => match us, hl with | [_, _], _ => rfl
  have b32 : Binds K d32 ["self", "at", "worth"] [] := F32.binds fun _ _ _ _ _ _ us hl => match us, hl with | [_, _, _], _ => rfl
  have b33 : Binds K d33 ["self", "mantissa", "exponent"] [] := F33.binds fun _ _ _ _ _ _ us hl => match us, hl with | [_, _, _], _ => rfl
  have b34 : Binds K d34 ["self", "number"] [] := F34.binds fun _ _ _ _ _ _ us hl => match us, hl with | [_, _], _ => rfl
  have b35 : Binds K d35 ["self", "numbers"] [] := F35.binds fun _ _ _ _ _ _ us hl => match us, hl with | [_, _], _ => rfl
  have b36 : Binds K d36 ["self", "other"] [] := F36.binds fun _ _ _ _ _ _ us hl => match us, hl with | [_, _], _ => rfl
  have b37 : Binds K d37 ["self", "other"] [] := F37.binds fun _ _ _ _ _ _ us hl => match us, hl with | [_, _], _ => rfl
  have b38 : Binds K d38 ["self", "other"] [] := F38.binds fun _ _ _ _ _ _ us hl => match us, hl with | [_, _], _ => rfl
  have b39 : Binds K d39 ["self", "other"] [] := F39.binds fun _ _ _ _ _ _ us hl => match us, hl with | [_, _], _ => rfl
  have m__default : mg "_default" = some (.ref (He.ga K "_default")) := He.glo_ok X G (c1.fact 25 (f := .glo "_default") rfl)
  have m_fields_of : mg "fields_of" = some (.ref (He.ga K "fields_of")) := He.glo_ok X G (c1.fact 26 (f := .glo "fields_of") rfl)
  have m_check_node : mg "check_node" = some (.ref (He.ga K "check_node")) := He.glo_ok X G (c1.fact 27 (f := .glo "check_node") rfl)
  have m_nodes_of : mg "nodes_of" = some (.ref (He.ga K "nodes_of")) := He.glo_ok X G (c1.fact 28 (f := .glo "nodes_of") rfl)
  have m_walk : mg "walk" = some (.ref (He.ga K "walk")) := He.glo_ok X G (c1.fact 29 (f := .glo "walk") rfl)
  have m_iter_child_nodes : mg "iter_child_nodes" = some (.ref (He.ga K "iter_child_nodes")) := He.glo_ok X G (c1.fact 30 (f := .glo "iter_child_nodes") rfl)
  have m_iter_fields : mg "iter_fields" = some (.ref (He.ga K "iter_fields")) := He.glo_ok X G (c1.fact 31 (f := .glo "iter_fields") rfl)
  have m__law_draw : mg "_law_draw" = some (.ref (He.ga K "_law_draw")) := He.glo_ok X G (c1.fact 32 (f := .glo "_law_draw") rfl)
  have m__law_pick : mg "_law_pick" = some (.ref (He.ga K "_law_pick")) := He.glo_ok X G (c1.fact 33 (f := .glo "_law_pick") rfl)
  have m__law_table : mg "_law_table" = some (.ref (He.ga K "_law_table")) := He.glo_ok X G (c1.fact 34 (f := .glo "_law_table") rfl)
  have m__law_pattern_table : mg "_law_pattern_table" = some (.ref (He.ga K "_law_pattern_table")) := He.glo_ok X G (c1.fact 35 (f := .glo "_law_pattern_table") rfl)
  have m__law_fields : mg "_law_fields" = some (.ref (He.ga K "_law_fields")) := He.glo_ok X G (c1.fact 36 (f := .glo "_law_fields") rfl)
  have m__law_group : mg "_law_group" = some (.ref (He.ga K "_law_group")) := He.glo_ok X G (c1.fact 37 (f := .glo "_law_group") rfl)
  have m__law_constants : mg "_law_constants" = some (.ref (He.ga K "_law_constants")) := He.glo_ok X G (c1.fact 38 (f := .glo "_law_constants") rfl)
  have m__law_spot : mg "_law_spot" = some (.ref (He.ga K "_law_spot")) := He.glo_ok X G (c1.fact 39 (f := .glo "_law_spot") rfl)
  have m__law_part : mg "_law_part" = some (.ref (He.ga K "_law_part")) := He.glo_ok X G (c1.fact 40 (f := .glo "_law_part") rfl)
  have m__law_model : mg "_law_model" = some (.ref (He.ga K "_law_model")) := He.glo_ok X G (c1.fact 41 (f := .glo "_law_model") rfl)
  have m__law_made_part : mg "_law_made_part" = some (.ref (He.ga K "_law_made_part")) := He.glo_ok X G (c1.fact 42 (f := .glo "_law_made_part") rfl)
  have m__law_node : mg "_law_node" = some (.ref (He.ga K "_law_node")) := He.glo_ok X G (c1.fact 43 (f := .glo "_law_node") rfl)
  have m__law_below : mg "_law_below" = some (.ref (He.ga K "_law_below")) := He.glo_ok X G (c1.fact 44 (f := .glo "_law_below") rfl)
  have m__law_models : mg "_law_models" = some (.ref (He.ga K "_law_models")) := He.glo_ok X G (c1.fact 45 (f := .glo "_law_models") rfl)
  have m__law_is_part : mg "_law_is_part" = some (.ref (He.ga K "_law_is_part")) := He.glo_ok X G (c1.fact 46 (f := .glo "_law_is_part") rfl)
  have m__law_is_so : mg "_law_is_so" = some (.ref (He.ga K "_law_is_so")) := He.glo_ok X G (c1.fact 47 (f := .glo "_law_is_so") rfl)
  have m__law_odd_part : mg "_law_odd_part" = some (.ref (He.ga K "_law_odd_part")) := He.glo_ok X G (c1.fact 48 (f := .glo "_law_odd_part") rfl)
  have m__law_bent : mg "_law_bent" = some (.ref (He.ga K "_law_bent")) := He.glo_ok X G (c1.fact 49 (f := .glo "_law_bent") rfl)
  have m__law_is_refused : mg "_law_is_refused" = some (.ref (He.ga K "_law_is_refused")) := He.glo_ok X G (c1.fact 50 (f := .glo "_law_is_refused") rfl)
  have m__law_told_right : mg "_law_told_right" = some (.ref (He.ga K "_law_told_right")) := He.glo_ok X G (c1.fact 51 (f := .glo "_law_told_right") rfl)
  have m__law_changed : mg "_law_changed" = some (.ref (He.ga K "_law_changed")) := He.glo_ok X G (c1.fact 52 (f := .glo "_law_changed") rfl)
  have m__law_great_right : mg "_law_great_right" = some (.ref (He.ga K "_law_great_right")) := He.glo_ok X G (c1.fact 53 (f := .glo "_law_great_right") rfl)
  have m_law : mg "law" = some (.ref (He.ga K "law")) := He.glo_ok X G (c1.fact 54 (f := .glo "law") rfl)
  have m_Node : mg "Node" = some (.ref (He.ga K "Node")) := He.glo_ok X G (c1.fact 55 (f := .glo "Node") rfl)
  have m_FIELDS : mg "FIELDS" = some (.ref (He.ga K "FIELDS")) := He.glo_ok X G (c1.fact 56 (f := .glo "FIELDS") rfl)
  have m_ATTRIBUTES : mg "ATTRIBUTES" = some (.ref (He.ga K "ATTRIBUTES")) := He.glo_ok X G (c1.fact 57 (f := .glo "ATTRIBUTES") rfl)
  have m_LIST_MARKS : mg "LIST_MARKS" = some (.ref (He.ga K "LIST_MARKS")) := He.glo_ok X G (c1.fact 58 (f := .glo "LIST_MARKS") rfl)
  have m_TreeError : mg "TreeError" = some (.ref (He.ga K "TreeError")) := He.glo_ok X G (c1.fact 59 (f := .glo "TreeError") rfl)
  have m_BadNode : mg "BadNode" = some (.ref (He.ga K "BadNode")) := He.glo_ok X G (c1.fact 60 (f := .glo "BadNode") rfl)
  have m_Dots : mg "Dots" = some (.ref (He.ga K "Dots")) := He.glo_ok X G (c1.fact 61 (f := .glo "Dots") rfl)
  have m_Float : mg "Float" = some (.ref (He.ga K "Float")) := He.glo_ok X G (c1.fact 62 (f := .glo "Float") rfl)
  have m_Imaginary : mg "Imaginary" = some (.ref (He.ga K "Imaginary")) := He.glo_ok X G (c1.fact 63 (f := .glo "Imaginary") rfl)
  have m_Octets : mg "Octets" = some (.ref (He.ga K "Octets")) := He.glo_ok X G (c1.fact 64 (f := .glo "Octets") rfl)
  have z_isinstance : mg "isinstance" = none := He.free_ok X G (c1.fact 65 (f := .free "isinstance") rfl)
  have z_str : mg "str" = none := He.free_ok X G (c1.fact 66 (f := .free "str") rfl)
  have z_tuple : mg "tuple" = none := He.free_ok X G (c1.fact 67 (f := .free "tuple") rfl)
  have z_list : mg "list" = none := He.free_ok X G (c1.fact 68 (f := .free "list") rfl)
  have z_len : mg "len" = none := He.free_ok X G (c1.fact 69 (f := .free "len") rfl)
  have z_zip : mg "zip" = none := He.free_ok X G (c1.fact 70 (f := .free "zip") rfl)
  have z_int : mg "int" = none := He.free_ok X G (c1.fact 71 (f := .free "int") rfl)
  have z_bool : mg "bool" = none := He.free_ok X G (c1.fact 72 (f := .free "bool") rfl)
  have z_range : mg "range" = none := He.free_ok X G (c1.fact 73 (f := .free "range") rfl)
  have z_sum : mg "sum" = none := He.free_ok X G (c1.fact 74 (f := .free "sum") rfl)
  have z_repr : mg "repr" = none := He.free_ok X G (c1.fact 75 (f := .free "repr") rfl)
  have z_dict : mg "dict" = none := He.free_ok X G (c1.fact 76 (f := .free "dict") rfl)
  have z_all : mg "all" = none := He.free_ok X G (c1.fact 77 (f := .free "all") rfl)
  have Z : Blt mg := ⟨z_isinstance, z_str, z_tuple, z_list, z_len, z_zip, z_int, z_bool, z_range, z_sum, z_repr⟩
  have Nf : NodeF K (He.ga K "Node") := ⟨He.cls_ok (c1.fact 1 (f := .cls "Node") rfl), He.noat_ok (c1.fact 2 (f := .noat "Node" "kind") rfl), He.noat_ok (c1.fact 3 (f := .noat "Node" "lineno") rfl), He.noat_ok (c1.fact 4 (f := .noat "Node" "col_offset") rfl), He.noat_ok (c1.fact 5 (f := .noat "Node" "end_lineno") rfl), He.noat_ok (c1.fact 6 (f := .noat "Node" "end_col_offset") rfl), He.noat_ok (c1.fact 7 (f := .noat "Node" "_fields") rfl)⟩
  have M := He.mkr_ok (c1.fact 0 (f := .mkr "Node") rfl)
  obtain ⟨g1, g2, g3⟩ := He.meth_ok (c1.fact 8 (f := .meth "Node" "__getitem__") rfl)
  obtain ⟨s1, s2, s3⟩ := He.meth_ok (c1.fact 9 (f := .meth "Node" "__setitem__") rfl)
  obtain ⟨p1, p2, p3⟩ := He.meth_ok (c1.fact 21 (f := .meth "Dots" "__eq__") rfl)
  obtain ⟨q1, q2, q3⟩ := He.meth_ok (c1.fact 22 (f := .meth "Float" "__eq__") rfl)
  obtain ⟨r1, r2, r3⟩ := He.meth_ok (c1.fact 23 (f := .meth "Imaginary" "__eq__") rfl)
  obtain ⟨t1, t2, t3⟩ := He.meth_ok (c1.fact 24 (f := .meth "Octets" "__eq__") rfl)
  unfold exL at e
  simp only [Bool.and_eq_true] at e
  obtain ⟨x_fld, x_lm, x_at, x_get, x_cN, x_kNN, x_kNl, x_nos, x_fnG, x_xN, x_kN, x_sN, x_tN, x_v0, x_v1, x_v2, x_v3, x_tyN, x_mk0, x_in0, x_kp0, x_q0, x_q1, x_q2, x_q3, x_exc, x_nt, x_kb⟩ := e
  have gg := x_get
  unfold getB at gg
  simp only [Bool.and_eq_true] at gg
  have kN := clsB_ok x_cN
  have Nc : NodeC K (He.ga K "Node") _ _ := ⟨Nf.cl, x_nos, g1, x_fnG, g2, s1, s2⟩
  have NI : NodeI K (He.ga K "Node") := ⟨Nf.cl, kN.1, He.eqO_ok gg.1, of_decide_eq_true gg.2, kN.2, of_decide_eq_true x_kNN, of_decide_eq_true x_kNl⟩
  have EN : ErrC K mg "BadNode" (He.ga K "BadNode") := ⟨m_BadNode, x_xN, x_kN, of_decide_eq_true x_sN, of_decide_eq_true x_tN⟩
  have v0 := valB_ok x_v0
  have v1 := valB_ok x_v1
  have v2 := valB_ok x_v2
  have v3 := valB_ok x_v3
  have w0 := eqB_ok x_q0
  have w1 := eqB_ok x_q1
  have w2 := eqB_ok x_q2
  have w3 := eqB_ok x_q3
  have all4 : ∀ {p : Nat → Prop}, p 0 → p 1 → p 2 → p 3 → ∀ j, j < 4 → p j := fun {p} h0 h1 h2 h3 j hj => by
    rcases j with _ | _ | _ | _ | j
    · exact h0
    · exact h1
    · exact h2
    · exact h3
    · omega
  have W : ValI K (He.ga K "Node") (csK K) := ⟨all4 (He.cls_ok (c1.fact 13 (f := .cls "Dots") rfl)) (He.cls_ok (c1.fact 14 (f := .cls "Float") rfl)) (He.cls_ok (c1.fact 15 (f := .cls "Imaginary") rfl)) (He.cls_ok (c1.fact 16 (f := .cls "Octets") rfl)),
    all4 v0.1.1 v1.1.1 v2.1.1 v3.1.1, He.eqO_ok gg.1, of_decide_eq_true gg.2, all4 v0.1.2 v1.1.2 v2.1.2 v3.1.2, all4 (p := fun j => ∀ T ∈ seqTs, PySem.W.kitOne K (.ref (csK K j)) T = some false) v0.2.1 v1.2.1 v2.2.1 v3.2.1, all4 (p := fun j => PySem.W.kitOne K (.ref (csK K j)) (.ref (He.ga K "Node")) = some false) v0.2.2.1 v1.2.2.1 v2.2.2.1 v3.2.2.1, fun t ht => of_decide_eq_true (List.all_eq_true.mp x_tyN t ht), all4 (p := fun j => csK K j ≠ (He.ga K "Node")) v0.2.2.2 v1.2.2.2 v2.2.2.2 v3.2.2.2⟩
  have EQ : EqF K mg (He.ga K "Node") (csK K) (fE K) := ⟨all4 (p := fun j => PySem.W.findIn K (.ref (csK K j)) "__eq__" = some (some (.ref (fE K j)))) p1 q1 r1 t1, all4 (p := fun j => PySem.W.isFn K (.ref (fE K j)) = true) p2 q2 r2 t2,
    all4 (p := fun j => PySem.W.kitOne K (.ref (csK K j)) (.ref (csK K j)) = some true) w0.1 w1.1 w2.1 w3.1, all4 (p := fun j => PySem.W.kitOne K (.ref (csK K j)) (.type "bool") = some false) w0.2.1 w1.2.1 w2.2.1 w3.2.1, all4 (p := fun j => PySem.W.kitOne K (.ref (csK K j)) (.type "str") = some false) w0.2.2 w1.2.2 w2.2.2 w3.2.2,
    m_Dots, m_Float, m_Imaginary, m_Octets, He.noat_ok (c1.fact 17 (f := .noat "Float" "mantissa") rfl), He.noat_ok (c1.fact 18 (f := .noat "Float" "exponent") rfl), He.noat_ok (c1.fact 19 (f := .noat "Imaginary" "number") rfl), He.noat_ok (c1.fact 20 (f := .noat "Octets" "numbers") rfl)⟩
  obtain ⟨es, n, hKD⟩ := c.tab 0 (t := ((fun K => He.ga K "FIELDS"), kysF)) rfl
  have T : Tabs K w mg (He.ga K "FIELDS") (He.ga K "ATTRIBUTES") es n := ⟨hKD, m_FIELDS, x_fld, m_ATTRIBUTES, fun H => He.tupB_ok x_at H⟩
  have hM : ∀ H, SqT K H (He.ga K "LIST_MARKS") (marks.map V.str) := fun H => He.tupB_ok x_lm H
  have el := hfa.symm.trans m_law
  cases el
  refine ⟨d29, fun s u => (FunD.bindsA (ps := ["_law_script"]) D29 fun _ _ _ _ _ _ us hl => match us, hl with | [_], _ => rfl) s [u] rfl, fun base _ _ => ?_⟩
  have fo := ok_fo (P := P) (w := w) (base := base) F1 T Z
  have I0 := ok_ini (n := 0) (k := 1) F30 T Z Nf fo b1 D1.kp m_fields_of b0 D0.kp m__default (Nat.le_refl 1) (no_def (C := (He.ga K "Node")))
  have Df := ok_def F0 m_LIST_MARKS hM M m_Node I0
  have I1 := ok_ini (n := 1) (k := 4) F30 T Z Nf fo b1 D1.kp m_fields_of b0 D0.kp m__default (by decide) Df
  have IA := ok_iniA (n := 1) (k := 4) F30 T Z Nf fo b1 D1.kp m_fields_of b0 D0.kp m__default (by decide) Df
  have get := ok_get (P := P) (w := w) (mg := mg) (base := base) F31 Nf.cl Nf.n6 Z.isI Z.st
  have set := ok_set (P := P) (w := w) (mg := mg) (base := base) F32 Nf.cl Nf.n6 Z.isI Z.st
  have dr := ok_draw (P := P) (w := w) (mg := mg) (base := base) F7 Z.it
  have pk := ok_pick F8 dr b7 D7.kp m__law_draw Z.ln
  have pt := ok_pt (P := P) (w := w) (mg := mg) (base := base) F10
  have tb := ok_tb F9 pt b10 D10.kp m__law_pattern_table
  have fd := ok_fd F11 Z tb b9 D9.kp m__law_table
  have gr := ok_gr (P := P) (w := w) (mg := mg) (base := base) F12
  have sp := ok_sp F14 dr b7 D7.kp m__law_draw
  have in1 := ok_in1 (P := P) (w := w) (mg := mg) (base := base) (Cs := csK K) F33 (W.cl 1 (by decide)) (He.noat_ok (c1.fact 17 (f := .noat "Float" "mantissa") rfl)) (He.noat_ok (c1.fact 18 (f := .noat "Float" "exponent") rfl))
  have in2 := ok_in2 (P := P) (w := w) (mg := mg) (base := base) (Cs := csK K) F34 (W.cl 2 (by decide)) (He.noat_ok (c1.fact 19 (f := .noat "Imaginary" "number") rfl))
  have in3 := ok_in3 (P := P) (w := w) (mg := mg) (base := base) (Cs := csK K) F35 (W.cl 3 (by decide)) (He.noat_ok (c1.fact 20 (f := .noat "Octets" "numbers") rfl))
  have MK : Mks P w K mg base (csK K) (fiK K) (fdK d33 d34 d35) := ⟨m_Dots, m_Float, m_Imaginary, m_Octets, x_mk0, He.eqO_ok x_in0, v0.1.2, x_kp0, He.mkr_ok (c1.fact 10 (f := .mkr "Float") rfl), He.mkr_ok (c1.fact 11 (f := .mkr "Imaginary") rfl), He.mkr_ok (c1.fact 12 (f := .mkr "Octets") rfl), in1, in2, in3, b33, b34, b35⟩
  have eq0 := ok_e0 (P := P) (w := w) (mg := mg) (base := base) F36 Z W EQ
  have eq1 := ok_e1 (P := P) (w := w) (mg := mg) (base := base) F37 Z W EQ
  have eq2 := ok_e2 (f1 := 0) F38 Z W EQ eq1 b37
  have eq3 := ok_e3 (P := P) (w := w) (mg := mg) (base := base) F39 Z W EQ
  have ES : Eqs P w K mg base (He.ga K "Node") (csK K) (fE K) (dE d36 d37 d38 d39) := ⟨EQ, all4 (p := fun j => FnOk P w K mg base CX0 2 (fE K j) (dE d36 d37 d38 d39 j) ["self", "other"] (spEq (RS (csK K) j))) (eq0.mono (by decide)) (eq1.mono (by decide)) eq2 eq3,
    all4 (p := fun j => Binds K (dE d36 d37 d38 d39 j) ["self", "other"] []) b36 b37 b38 b39⟩
  have cn := ok_cn F13 MK
  have DD : DDefs P w K mg base (csK K) _ _ _ _ _ _ := ⟨dr, b7, D7.kp, m__law_draw, pk, b8, D8.kp, m__law_pick, cn, b13, D13.kp, m__law_constants⟩
  have MD : MDefs P w K mg base _ _ _ _ _ _ _ _ := ⟨pk, b8, D8.kp, m__law_pick, sp, b14, D14.kp, m__law_spot, gr, b12, D12.kp, m__law_group, fd, b11, D11.kp, m__law_fields⟩
  have mo : ∀ (nd : Addr → Option Addr) (n : Nat), FnOk P w K mg base CX0 (1 + n) _ _ ["_law_model_here"] (spMo (csK K) nd n) := fun nd n => by
    induction n with
    | zero => exact no_mo
    | succ n ih => exact ok_mo (Nat.le_add_right 1 n) F20 (ok_bl (nd := nd) F19 Z z_dict W) b19 D19.kp m__law_below ih b20 m__law_models
  have iso : ∀ n : Nat, FnOk P w K mg base CX0 (3 + 2 * n) _ _ ["_law_found", "_law_part_here"] (spIp (He.ga K "Node") (csK K) n) ∧ FnOk P w K mg base CX0 (4 + 2 * n) _ _ ["_law_node_here", "_law_model_here"] (spIs (He.ga K "Node") (csK K) n) := fun n => by
    induction n with
    | zero => exact ⟨no_ip, ok_is F22 Z z_all Nf Nc get b31 fd b11 D11.kp m__law_fields (Nat.le_refl 3) no_ip b21 D21.kp m__law_is_part⟩
    | succ n ih =>
      have ip : FnOk P w K mg base CX0 (4 + 2 * n + 1) _ _ ["_law_found", "_law_part_here"] (spIp (He.ga K "Node") (csK K) (n + 1)) := ok_ip F21 b21 m__law_is_part Z z_dict z_all W NI m_Node ES (show 2 ≤ 4 + 2 * n by omega) (ih.1.mono (by omega)) ih.2 b22 D22.kp m__law_is_so
      have ise := ok_is F22 Z z_all Nf Nc get b31 fd b11 D11.kp m__law_fields (show 3 ≤ 4 + 2 * n + 1 by omega) ip b21 D21.kp m__law_is_part
      exact ⟨ip.mono (by omega), ise.mono (by omega)⟩
  have drs := ok_draws F15 b15 m__law_part F16 b16 m__law_model Z DD MD
  have mdG : FnOk P w K mg base CX0 35 _ _ pPr (spMdl (csK K) 32 40 6) := ok_mdl (by decide) (by decide) (by decide) (drs 32).2
  have md3 : FnOk P w K mg base CX0 19 _ _ pPr (spMdl (csK K) 16 3 2) := ok_mdl (by decide) (by decide) (by decide) (drs 16).2
  have md2 : FnOk P w K mg base CX0 19 _ _ pPr (spMdl (csK K) 16 2 1) := ok_mdl (by decide) (by decide) (by decide) (drs 16).2
  have mades := ok_mades F18 b18 m__law_node F17 b17 m__law_made_part Z z_dict W NI Nc M m_Node IA set b32 fd b11 D11.kp m__law_fields 51
  have nod : FnOk P w K mg base CX0 160 _ _ ["_law_model_here"] (spNd K (He.ga K "Node") (csK K) 51) := mades.2
  have mp : FnOk P w K mg base CX0 160 _ _ ["_law_part_here"] (spMp K (He.ga K "Node") (csK K) 51) := mades.1.mono (by decide)
  have bl := fun nd => ok_bl (nd := nd) (P := P) (w := w) (mg := mg) (base := base) F19 Z z_dict W
  have is102 : FnOk P w K mg base CX0 208 _ _ ["_law_node_here", "_law_model_here"] (spIs (He.ga K "Node") (csK K) 102) := (iso 102).2.mono (by decide)
  have mo103 : ∀ nd, FnOk P w K mg base CX0 104 _ _ ["_law_model_here"] (spMo (csK K) nd 103) := fun nd => (mo nd 103).mono (by decide)
  have mo33 : FnOk P w K mg base CX0 34 _ _ ["_law_model_here"] (spMo (csK K) (fun _ => none) 33) := (mo _ 33).mono (by decide)
  have ch0 := ok_chk0 (P := P) (w := w) (mg := mg) (base := base) F2 Z NI m_Node
  have no := ok_no (P := P) (w := w) (mg := mg) (base := base) F3 Z m_Node
  have ic := ok_ic F5 Nf Nc ch0 b2 D2.kp m_check_node fo b1 D1.kp m_fields_of no b3 D3.kp m_nodes_of get b31
  have wk := ok_wk F4 ch0 b2 D2.kp m_check_node ic b5 D5.kp m_iter_child_nodes
  have itf := ok_if F6 Nf Nc ch0 b2 D2.kp m_check_node fo b1 D1.kp m_fields_of get b31
  have chX := ok_chkX (P := P) (w := w) (mg := mg) (base := base) F2 Z m_Node EN
  have wkX := ok_wkX F4 chX b2 D2.kp m_check_node
  have icX := ok_icX F5 chX b2 D2.kp m_check_node
  have ifX := ok_ifX F6 chX b2 D2.kp m_check_node
  have RF0 : ErrF K mg (He.ga K "TreeError") (He.ga K "BadNode") := ⟨m_TreeError, EN, excB_ok x_get x_exc, of_decide_eq_true x_nt, of_decide_eq_true x_kb⟩
  have rf := ok_rf F25 Z RF0 wkX b4 D4.kp m_walk icX b5 D5.kp m_iter_child_nodes ifX b6 D6.kp m_iter_fields
  have od := ok_od F23 dr b7 D7.kp m__law_draw md3 b16 D16.kp m__law_model
  have be := ok_be F24 Z dr b7 D7.kp m__law_draw mo33 b20 D20.kp m__law_models pk b8 D8.kp m__law_pick od b23 D23.kp m__law_odd_part
  have td := ok_td F26 Z z_all W NI Nc get b31 mo103 b20 D20.kp m__law_models bl b19 D19.kp m__law_below fd b11 D11.kp m__law_fields is102 b22 D22.kp m__law_is_so wk b4 D4.kp m_walk ic b5 D5.kp m_iter_child_nodes itf b6 D6.kp m_iter_fields
  have ch := ok_ch (kN := 160) (by decide) F27 Z W Nc get b31 set b32 dr b7 D7.kp m__law_draw mo103 b20 D20.kp m__law_models pk b8 D8.kp m__law_pick md2 b16 D16.kp m__law_model fd b11 D11.kp m__law_fields nod b18 D18.kp m__law_node mp b17 D17.kp m__law_made_part
  have gy := ok_gy F28 Z W NI Nc get b31 M m_Node I1 wk b4 D4.kp m_walk ic b5 D5.kp m_iter_child_nodes
  have L : LawD P w K mg base (He.ga K "Node") (csK K) (fiK K) (fdK d33 d34 d35) _ _ _ _ _ _ _ _ _ _ _ _ _ _ _ _ _ _ := ⟨dr, b7, D7.kp, m__law_draw, mdG, b16, D16.kp, m__law_model, be, b24, D24.kp, m__law_bent, nod, b18, D18.kp, m__law_node, td, b26, D26.kp, m__law_told_right, ch, b27, D27.kp, m__law_changed, wk, b4, D4.kp, m_walk, rf, b25, D25.kp, m__law_is_refused, gy, b28, D28.kp, m__law_great_right, MK⟩
  exact ok_law F29 Z W NI L
end M4

namespace M4
open PySem PySem.Spec PyProof.Rows L2 LamX
theorem law_at {l : PySem.W.OpenLaw} {w : World} {K : PySem.W.Frag} {mg : Str → Option Value} {fa : Addr} {h : Heap} (KX : K.In h) (G : h.Ns mainGlobals mg) (hmg : mg ("law" : Str) = some (.ref fa)) (c : He.SaysX faL fnL tsL [] exL w h K) : LawAtS l w K CX0 210 63 "_law_script" mg fa h := by
  obtain ⟨fd, hb, hF⟩ := facts (P := l.prog) KX G hmg c.t c.more
  exact ⟨fd, [], spLaw K, fun z hz => (by cases hz), fun z hz => (by cases hz), fun z hz => (by cases hz), hb, fun H a ns hl _ hH hS => ⟨a, ns, rfl, hS, hl, fun _ => rfl⟩, fun base h1 h2 _ => hF base h1 h2⟩
end M4

noncomputable section
namespace HDR
open PySem PySem.W PySem.Calls PyProof.Rows HandSHeadRun
abbrev xtB (s : Shared) : Bool := xlAt qv [] s && recOk R.toRowW.records s
/-- what is looked at behind the top, with a Hook's own look -/
abbrev LookEq (H : Hook) (ob : SharedT → H.α) (w : World) : Prop := ∀ os : OsState, (goF (stepQ (denQ tabQ) PG w) 11 (some (.ref 6)) 4000 (sf w os) thB).map (fun s => (looksF PG (boot_heap w.params) s.abs, seenQ qv names (importedModules PG.main.body) xtB s.abs, ob s)) = some (true, openGood qv names, H.val w)
theorem left_mine {H : Hook} {ob : SharedT → H.α} (ho : ∀ s, ob s = H.obs s.abs) (run : ∀ w, LookEq H ob w) (e : opening PG = plainProg PG.main.scope.names) (f : ∀ s, fenceModules? PG s = some s) : LeftO PG qv names xtB H.obs H.val 8000 true := fun w => by
  obtain ⟨⟨h, gs, dr, tk, os⟩, a, a2⟩ := Option.map_eq_some_iff.mp (boot_open (N := 8000) e (by decide) f w)
  obtain ⟨rfl, rfl, rfl, rfl⟩ : h = boot_heap w.params ∧ gs = Array.mk [] ∧ dr = boot_drawn ∧ tk = boot_toks := by simpa using a2
  obtain ⟨z, hz, hv⟩ := Option.map_eq_some_iff.mp (run w os)
  obtain ⟨l1, l2, l3⟩ : _ ∧ _ ∧ _ := by simpa only [Prod.mk.injEq] using hv
  have t := topRun_mono (8000 - (12 + (1 + (3010 + 4000)))) _ _ _ _ (whole hz)
  rw [show 12 + (1 + (3010 + 4000)) + (8000 - (12 + (1 + (3010 + 4000)))) = 8000 from rfl] at t
  have l1 : (staticsOk (importedModules PG.main.body) (boot_heap w.params) z.abs.heap && namesBound PG z.abs.heap && gensDone z.abs && laidKept (boot_heap w.params) z.abs.heap) = true := l1
  have top : topFrom treeTable PG w 8000 ⟨boot_heap w.params, Array.mk [], boot_drawn, boot_toks, os⟩ = some z.abs := by
    unfold topFrom
    dsimp only
    rw [boot_ns]
    show (topRun treeTable PG w (boot_heap w.params).objs.size (bootAnn w) 8000 (bootS w os) (topStub PG)).bind _ = _
    rw [sizeB, annB, t]
    show (match staticsOk (importedModules PG.main.body) (boot_heap w.params) z.abs.heap && namesBound PG z.abs.heap && gensDone z.abs && laidKept (boot_heap w.params) z.abs.heap with | true => some z.abs | false => none) = _
    rw [l1]
  unfold openEnds
  rw [a]
  show (topFrom treeTable PG w 8000 _).map _ = _
  rw [top]
  refine congrArg some (Prod.ext ?_ ?_)
  · show openSeen qv names (importedModules PG.main.body) xtB true z.abs = openGood qv names
    rw [seenQ_eq]
    exact l2
  · show H.obs z.abs = H.val w
    rw [← ho]
    exact l3
theorem head_mine {H : Hook} {ob : SharedT → H.α} {d : DefRec} {kwd : List (PySem.Str × PySem.Expr)} (ho : ∀ s, ob s = H.obs s.abs) (run : ∀ w, LookEq H ob w) (e : opening PG = plainProg PG.main.scope.names) (f : ∀ s, fenceModules? PG s = some s)
    (hdef : defOf qv R.name = some (d, kwd)) (hp : PG.theDef R.name = some (d.params, d.body, d.scope)) (hk : kwWritten? d.params.kwonlyargs d.params.kw_defaults = some kwd)
    (hwr : (!R.writes || R.records.isEmpty) = true) (k1 : R.wellSaid = true) (ok : (chainsOk qv && opensWell PG && (frees R.toRowW && R.within.isEmpty)) = true) (hb : PG.bare) (hw : R.toRowW.promised)
    (call : WalkO qv names (XL qv []) H.says R.toRowW d kwd fun f vs => PySem.call f vs) : R.Holds :=
  holds_open (r := R) (q := qv) (loose := names) (XP := XL qv []) (YP := H.says) (d := d) (kwd := kwd) (left_mine ho run e f) H.of H.keeps (fun s z => xl_of s (Bool.and_eq_true_iff.mp z).1) XL.keeps hdef hp hk (fun s z => recFacts_of (Bool.and_eq_true_iff.mp z).2) hwr k1 ok hb hw call
/-- what stands at the first places: taken as the written part -/
def asR : List Addr := List.range 1200
abbrev tfL : List He.Defn := []
def obT (g : Addr → Option Obj) : He.AlT := He.obsT M4.faL M4.fnL M4.tsL (He.frT g asR)
def obE (g : Addr → Option Obj) : Bool := M4.exL (He.frT g asR) && He.tabsB g tfL (He.frT g asR)
abbrev SaysK (w : World) (h : Heap) (K : PySem.W.Frag) : Prop := He.SaysX M4.faL M4.fnL M4.tsL tfL M4.exL w h K
theorem says_of {w : World} {h : Heap} (e1 : obT h.get? = He.valT M4.fnL M4.tsL w) (e2 : obE h.get? = true) : SaysK w h (He.frT h.get? asR) := by
  have both := Bool.and_eq_true_iff.mp e2
  have per : ∀ p ∈ tfL, PySem.W.codeHdIn (He.frT h.get? asR) (He.cT (He.frT h.get? asR) p).1 (He.cT (He.frT h.get? asR) p).2 = true ∧ ∃ ob, h.get? (He.cT (He.frT h.get? asR) p).2 = some ob ∧ He.emptyTab ob = true := fun p hp => by
    have z := Bool.and_eq_true_iff.mp (List.all_eq_true.mp both.2 p hp)
    have z2 := z.2
    split at z2
    · rename_i ob hob
      exact ⟨z.1, ob, hob, z2⟩
    · cases z2
  refine { t := e1, more := both.1, hd := fun p hp => (per p hp).1, out := fun p hp => ?_, empty := fun p hp => ?_ }
  · obtain ⟨_, ob, hob, te⟩ := per p hp
    exact He.frT_none hob te
  · obtain ⟨_, ob, hob, te⟩ := per p hp
    rw [hob, He.emptyTab_eq te]
def saysK (w : World) (h : Heap) : Prop := ∃ K : PySem.W.Frag, K.In h ∧ SaysK w h K
def HK : Hook := by
  refine { α := He.AlT × Bool, obs := fun s => (obT s.heap.get?, obE s.heap.get?), val := fun w => (He.valT M4.fnL M4.tsL w, true), says := saysK, of := ?_, keeps := ?_ }
  · intro w s e
    have e1 := congrArg Prod.fst e
    have e2 := congrArg Prod.snd e
    exact ⟨_, He.frT_in, says_of e1 e2⟩
  · intro w h h' hs keep
    obtain ⟨K, KX, c⟩ := hs
    refine ⟨K, PySem.W.Frag.In.keeps KX keep, { t := c.t, more := c.more, hd := c.hd, out := c.out, empty := ?_ }⟩
    intro p hp
    exact keep _ _ (c.empty p hp)
def obK (s : SharedT) : He.AlT × Bool := (obT (getT s), obE (getT s))
theorem obK_eq (s : SharedT) : obK s = HK.obs s.abs := by
  have e : getT s = s.abs.heap.get? := funext (getT_eq s)
  unfold obK
  rw [e]
  rfl
theorem opt3 {α β γ δ ε : Type} {o : Option α} {f : α → β} {g : α → γ} {k : α → δ × ε} {b : β} {c : γ} {d : δ} {e : ε} (h1 : o.map (fun s => (f s, g s)) = some (b, c)) (h2 : o.map (fun s => (k s).1) = some d) (h3 : o.map (fun s => (k s).2) = some e) : o.map (fun s => (f s, g s, k s)) = some (b, c, d, e) := by
  cases o with
  | none => cases h1
  | some s =>
    have e1 := Option.some.inj h1
    have e2 := Option.some.inj h2
    have e3 := Option.some.inj h3
    have e4 : k s = (d, e) := Prod.ext e2 e3
    have e5 : f s = b := congrArg (·.1) e1
    have e6 : g s = c := congrArg (·.2) e1
    show some (f s, g s, k s) = _
    rw [e4, e5, e6]
set_option maxHeartbeats 0 in
theorem run1f (w : World) (os : OsState) : (goF (stepQ (denQ tabQ) PG (w.withFollow "special-get-raises" false)) 11 (some (.ref 6)) 4000 (sf (w.withFollow "special-get-raises" false) os) thB).map (fun s => (looksF PG (boot_heap (w.withFollow "special-get-raises" false).params) s.abs, seenQ qv names (importedModules PG.main.body) xtB s.abs)) = some (true, openGood qv names) := by kernel_rfl
set_option maxHeartbeats 0 in
theorem run2f (w : World) (os : OsState) : (goF (stepQ (denQ tabQ) PG (w.withFollow "special-get-raises" false)) 11 (some (.ref 6)) 4000 (sf (w.withFollow "special-get-raises" false) os) thB).map (fun s => obT (getT s)) = some (He.valT M4.fnL M4.tsL (w.withFollow "special-get-raises" false)) := by kernel_rfl
set_option maxHeartbeats 0 in
theorem run3f (w : World) (os : OsState) : (goF (stepQ (denQ tabQ) PG (w.withFollow "special-get-raises" false)) 11 (some (.ref 6)) 4000 (sf (w.withFollow "special-get-raises" false) os) thB).map (fun s => obE (getT s)) = some true := by kernel_rfl
set_option maxHeartbeats 0 in
theorem run1t (w : World) (os : OsState) : (goF (stepQ (denQ tabQ) PG (w.withFollow "special-get-raises" true)) 11 (some (.ref 6)) 4000 (sf (w.withFollow "special-get-raises" true) os) thB).map (fun s => (looksF PG (boot_heap (w.withFollow "special-get-raises" true).params) s.abs, seenQ qv names (importedModules PG.main.body) xtB s.abs)) = some (true, openGood qv names) := by kernel_rfl
set_option maxHeartbeats 0 in
theorem run2t (w : World) (os : OsState) : (goF (stepQ (denQ tabQ) PG (w.withFollow "special-get-raises" true)) 11 (some (.ref 6)) 4000 (sf (w.withFollow "special-get-raises" true) os) thB).map (fun s => obT (getT s)) = some (He.valT M4.fnL M4.tsL (w.withFollow "special-get-raises" true)) := by kernel_rfl
set_option maxHeartbeats 0 in
theorem run3t (w : World) (os : OsState) : (goF (stepQ (denQ tabQ) PG (w.withFollow "special-get-raises" true)) 11 (some (.ref 6)) 4000 (sf (w.withFollow "special-get-raises" true) os) thB).map (fun s => obE (getT s)) = some true := by kernel_rfl
theorem runAll (w : World) : LookEq HK obK w := byRow2 "special-get-raises" (P := fun w => LookEq HK obK w) (fun w os => opt3 (run1f w os) (run2f w os) (run3f w os)) (fun w os => opt3 (run1t w os) (run2t w os) (run3t w os)) w
end HDR
open PySem PySem.W PySem.Calls PyProof.Rows
set_option maxHeartbeats 0 in
theorem PySem.Challenge.cw_treequill_k74_walk_and_children_holds : PySem.Challenge.rw_treequill_k74_walk_and_children.Holds := by
  w_on; o_law
  refine HDR.head_mine (H := HDR.HK) (ob := HDR.obK) (d := HandSHeadRun.topDef HDR.PG 46) (kwd := []) HDR.obK_eq HDR.runAll (by kernel_rfl) (fun s => by kernel_rfl) (by kernel_rfl) (by kernel_rfl) (by kernel_rfl) (by rfl) (by first | assumption | decide +kernel) (by decide +kernel) ⟨rfl, rfl, rfl, rfl, rfl, by decide +kernel⟩ ?hw ?hc
  case hw => w_witness2
  case hc =>
    refine LamX.walk_ofTsE (l := PySem.Challenge.rw_treequill_k74_walk_and_children) (n := 63) (k := 210) (CX := fun _ => L2.CX0) (x := "_law_script") rfl (by decide) rfl M4.room_law ?F (fun _ _ _ _ _ h => h)
    intro w mg fa h Y G hmg
    obtain ⟨K, KX, c⟩ := Y
    exact ⟨K, KX, M4.law_at KX G hmg c⟩
